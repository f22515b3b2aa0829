import PyProof.Rows.All
import Wide.All
import OpenK.AllK
import Wide.FinOn
import PyProof.EqAt
import PyProof.EqKinds
import PyProof.TupleCall
import Open.SpecLaws
import KE.OsGo
import PySem.Challenge.RW_unbeaten_s01_answers
import HandS.ForSpec
import HandS.ExcSuper
import HandS.ExcField
import HandS.ForMost
import HandS.Iter
import HandS.Zip
import HandS.More
import HandS.SortKw
import KE.DatumOrd
import HandS.Conv
import HandS.CallLocal
import HandS.Walk
set_option Elab.async false
set_option linter.all false
set_option maxRecDepth 100000
set_option maxHeartbeats 4000000
/-! The program's own error, with two fields: made and raised. -/
namespace PySem
namespace FltX
open PySem.W PySem.Calls PyProof.Rows PySem.HandSPX
def fArgs : Arguments := { posonlyargs := [], args := [{ arg := "self", annotation := none, pos := ⟨72, 17, 72, 21⟩ }, { arg := "code", annotation := none, pos := ⟨72, 23, 72, 27⟩ }, { arg := "place", annotation := none, pos := ⟨72, 29, 72, 34⟩ }], vararg := none, kwonlyargs := [], kw_defaults := [], kwarg := none, defaults := [] }
def fBody : List Stmt := [.Assign [.Attribute (.Name "self" ⟨73, 8, 73, 12⟩) "code" ⟨73, 8, 73, 17⟩] (.Name "code" ⟨73, 20, 73, 24⟩) ⟨73, 8, 73, 24⟩,
  .Assign [.Attribute (.Name "self" ⟨74, 8, 74, 12⟩) "place" ⟨74, 8, 74, 18⟩] (.Name "place" ⟨74, 21, 74, 26⟩) ⟨74, 8, 74, 26⟩]
def fScope : Scope := { kind := .function, names := [(PySem.Str.ofString "self", .local), (PySem.Str.ofString "code", .local), (PySem.Str.ofString "place", .local)], isGenerator := false, isCoroutine := false, more := [] }
abbrev exMro : List Value := [.type "Exception", .type "BaseException", .type "object"]
/-- what the written part says of Fault, at C, and of its __init__, at fI -/
structure FltTxt (K : Frag) (mg : Str → Option Value) (C fI : Addr) : Prop where
  gC : mg "Fault" = some (.ref C)
  cls : ∃ nm q N bs sn sub ab col dd k0 k1 k2 k3 k5, K.lookup C = some (excClassObj nm q C N bs exMro true sn sub ab col dd k0 k1 k2 k3 k5 "Exception.__new__")
  sa : findIn K (.ref C) "__setattr__" = some (some (.builtin "object.__setattr__"))
  ga : findIn K (.ref C) "__getattribute__" = some (some (.builtin "BaseException.__getattribute__"))
  gg : findIn K (.ref C) "__getattr__" = some none
  noC : findIn K (.ref C) "code" = some none
  noP : findIn K (.ref C) "place" = some none
  iC : findIn K (.ref C) "__init__" = some (some (.ref fI))
  tC : typeIn K (.ref fI) = some (.type "function")
  kC : keepIn K (.ref C) = true
  exC : subIn K (.ref C) (.type "BaseException") = some true
  tyC : typeIn K (.ref C) = some (.type "type")
  hdC : hasDictIn K C = true
  te : exmOne K (.ref C) (.ref C) = some true
  fn : ∃ (oc : Value) (od : Option Addr) (doc pm : Value) (an : Option Addr) (cdv ct : Value) (osl : Array (Option Value)),
    K.lookup fI = some ⟨oc, od, .func (fnOf "__init__" "Fault.__init__" fArgs fBody fScope .none .none doc pm an cdv ct), osl⟩ ∧ codeIn K cdv "Fault.__init__" = true
theorem FltTxt.xf {K : Frag} {mg : Str → Option Value} {C fI : Addr} (T : FltTxt K mg C fI) : L2.XfC K C := ⟨T.ga, T.gg, T.exC, T.hdC⟩
theorem two_size (v u : Value) : [v, u].length ≤ sizeLine := by
  rw [sizeLine_eq]
  exact (by decide : 2 ≤ 16777216)
theorem in_but {K : Frag} {h h' : Heap} {x : Addr} (X : K.In h) (hx : K.lookup x = none) (k : ∀ b o, b ≠ x → h.get? b = some o → h'.get? b = some o) : K.In h' := fun a o e =>
  k a o (fun z => by rw [z, hx] at e; cases e) (X a o e)
theorem ldS {M : Model} {s : Shared} {name : Str} {scope : Scope} {L a : Addr} {cd : Value} {m : Str → Option Value} {x : Str} {pos : Pos} {v : Value} {Q : Value → Shared → Prop} {A : Around} {E : Value → Shared → Prop} (hn : s.heap.Ns L m) (hv : m x = some v) (h : Q v s)
    (hk : scope.kind = .function := by rfl) (hl : (envOfC name scope L a cd).kindOf x = some .local := by rfl) (hd : (x == ("__debug__" : Str)) = false := by decide) :
    wpAny M A (eval (.Name x pos) (envOfC name scope L a cd)) Q E s := wpAny_Name (wpAny_loadName_local hk hl hn hv h) hd
def fMap (v u : Value) : Str → Option Value := fun y => if y = "place" then some u else if y = "code" then some v else none
/-- what __init__ leaves of a fresh error at x -/
structure FEnd (h h' : Heap) (x C dx t1 : Addr) (v u : Value) : Prop where
  keep : ∀ b o, b ≠ x → h.get? b = some o → h'.get? b = some o
  obj : h'.get? x = some { cls := .ref C, dict := some dx, data := .fields #[.ref t1, .none, .none, .none, .bool false, .none] }
  dbig : h.objs.size ≤ dx
  dne : dx ≠ x
  ns : h'.Ns1 dx (fMap v u)
/-- a made error -/
structure FMade (h h' : Heap) (e C d : Addr) (v u : Value) : Prop where
  keep : ∀ b o, h.get? b = some o → h'.get? b = some o
  new : h.objs.size ≤ e
  obj : ∃ oe vs, h'.get? e = some oe ∧ oe.cls = .ref C ∧ oe.dict = some d ∧ oe.data = .fields vs ∧ vs[1]? = some .none
  dbig : h.objs.size ≤ d
  dne : d ≠ e
  ns : h'.Ns1 d (fMap v u)
section
variable {prog : Program} {w : World} {A : Around} {E : Value → Shared → Prop} {R : Result → Shared → Prop} {s : Shared} {K : Frag} {mg : Str → Option Value} {C fI : Addr}
theorem flt_init (T : FltTxt K mg C fI) {x t0 : Addr} {v u : Value} (X : K.In s.heap) (hlim : s.heap.NoLimit) (hx : s.heap.get? x = some (excO C t0)) (hnx : K.lookup x = none) (hroom : A.depth < recursionLimit)
    (hq : ∀ h' tk dx, FEnd s.heap h' x C dx t0 v u → R (.ok (.ret .none)) { s with heap := h', toks := tk }) :
    codeAny (model prog w) A (.call (.ref fI) ⟨[.ref x, v, u], []⟩) R s := by
  obtain ⟨oc, od, doc, pm, an, cdv, ct, osl, ho, hcd⟩ := T.fn
  obtain ⟨nm, q, N, bs, sn, sub, ab, col, dd, k0, k1, k2, k3, k5, hC⟩ := T.cls
  have hcl : clsIn K C = some { name := nm, bases := bs, mro := .ref C :: exMro, ns := N, qualname := q, hasDict := true, slotNames := sn, subclasses := sub, abstract := ab, collection := col, hasDel := false } := by unfold clsIn; rw [hC] <;> rfl
  refine Att.call_fn (binds := [("self", .ref x), ("code", v), ("place", u)]) X hlim ho hcd hroom (BindsTo.of_eq (by first | rfl | with_unfolding_all rfl)) (by first | rfl | decide | with_unfolding_all rfl) (fun s₁ IC => ?_) rfl rfl rfl
  obtain ⟨h₁, tk₁, rfl⟩ := IC.toInCall.same
  have k : ∀ b o, s.heap.get? b = some o → h₁.get? b = some o := IC.toInCall.keep
  have hn := IC.toInCall.ns
  have hxL : s.heap.objs.size ≠ x := Nat.ne_of_gt (Heap.lt_size hx)
  have X₁ : K.In h₁ := X.keeps k
  have hx₁ := k _ _ hx
  -- self.code = code
  show wpAny _ _ (execs _ _) _ _ _
  refine wpAny_execs_cons (plainObj_wpAny_Assign_Attribute ?_)
  refine ldS (v := v) hn (by first | rfl | with_unfolding_all rfl | kernel_rfl) (ldS (v := .ref x) hn (by first | rfl | with_unfolding_all rfl | kernel_rfl) ?_)
  refine set_plain X₁ (ox := excO C t0) (od := none) ⟨hx₁, rfl, rfl, trivial⟩ T.sa ?_
  refine ESX.osa_new X₁ hx₁ hcl rfl rfl T.noC (fun h₃ tk₃ dx k₃ dn dne hx₃ hn₃ => ?_)
  have X₃ : K.In h₃ := in_but X₁ hnx k₃
  have hn3 : h₃.Ns s.heap.objs.size _ := hn.at fun o e => k₃ _ o hxL e
  -- self.place = place
  show wpAny _ _ (execs _ _) _ _ _
  refine wpAny_execs_cons (plainObj_wpAny_Assign_Attribute ?_)
  refine ldS (v := u) hn3 (by first | rfl | with_unfolding_all rfl | kernel_rfl) (ldS (v := .ref x) hn3 (by first | rfl | with_unfolding_all rfl | kernel_rfl) ?_)
  obtain ⟨oD, esD, epD, hoD, hdD, hcD⟩ := hn₃.count (Within.cons "code" v Within.nil)
  refine set_plain X₃ (od := some oD) ⟨hx₃, rfl, rfl, hoD⟩ T.sa ?_
  refine ESX.osa_old (nl := ["code"]) X₃ hx₃ hn₃ (Within.cons "code" v Within.nil) (by decide) hcl rfl rfl T.noP (fun h₄ tk₄ k₄ hn₄ => ?_)
  show wpAny _ _ (execs _ _) _ _ _
  have z : s.heap.objs.size < h₁.objs.size := hn.lt
  have hdx : s.heap.objs.size ≤ dx := Nat.le_of_lt (Nat.lt_of_lt_of_le z dn)
  exact wpAny_execs_nil (hq h₄ tk₄ dx ⟨fun b o hb e => k₄ b o (Nat.ne_of_lt (Nat.lt_of_lt_of_le (Heap.lt_size e) hdx)) (k₃ b o hb (k b o e)), k₄ _ _ dne.symm hx₃, hdx, dne, hn₄⟩)
theorem flt_made (T : FltTxt K mg C fI) {v u : Value} (X : K.In s.heap) (hlim : s.heap.NoLimit) (hroom : A.depth + 1 < recursionLimit)
    (hq : ∀ h' tk e d, FMade s.heap h' e C d v u → R (.ok (.ret (.ref e))) { s with heap := h', toks := tk }) :
    codeAny (model prog w) A (.call (.ref C) ⟨[v, u], []⟩) R s := by
  obtain ⟨nm, q, N, bs, sn, sub, ab, col, dd, k0, k1, k2, k3, k5, hC⟩ := T.cls
  obtain ⟨hp, g, dr, tk, os⟩ := s
  have k : ∀ b o, hp.get? b = some o → ((hp.push (kdv_tup [v, u])).push (excO C hp.objs.size)).get? b = some o := fun b o e => Heap.get?_push_of_some _ (Heap.get?_push_of_some _ e)
  have hget : ((hp.push (kdv_tup [v, u])).push (excO C hp.objs.size)).get? (hp.objs.size + 1) = some (excO C hp.objs.size) := by heap_get
  have hnx : K.lookup (hp.objs.size + 1) = none := by
    cases e : K.lookup (hp.objs.size + 1) with
    | none => rfl
    | some o =>
      have z : hp.get? (hp.objs.size + 1) = some o := X _ _ e
      exact absurd (Nat.lt_of_succ_lt (Heap.lt_size z)) (Nat.lt_irrefl _)
  refine call_own F.excBase_Exception (fun _ => rfl) (X _ _ hC) (looks_findIn X T.iC) (fun self => bind_fn X self T.tC) (two_size v u) ?_
  refine flt_init (s := ⟨(hp.push (kdv_tup [v, u])).push (excO C hp.objs.size), g, dr, tk, os⟩) T (X.keeps k) (hlim.keeps k) hget hnx ?_ fun h' tk' dx ⟨k', hx, dn, dne, hns⟩ => ?_
  · show A.depth + 1 < recursionLimit
    exact hroom
  · have old : ∀ b o, hp.get? b = some o → h'.get? b = some o := fun b o e => k' b o (Nat.ne_of_lt (Nat.lt_succ_of_lt (Heap.lt_size e))) (k b o e)
    have z : hp.objs.size + 1 + 1 ≤ dx := by
      first
        | (simpa only [Heap.size_push] using dn)
        | exact dn
        | (have q := dn; rw [Heap.size_push, Heap.size_push] at q; exact q)
    exact ⟨rfl, hq h' tk' (hp.objs.size + 1) dx ⟨old, Nat.le_succ _, ⟨_, _, hx, rfl, rfl, rfl, rfl⟩, Nat.le_trans (Nat.le_trans (Nat.le_succ _) (Nat.le_succ _)) z, dne, hns⟩⟩
end
end FltX
end PySem
namespace L2
open PySem PySem.Spec PyProof.Rows
def fPairs (v u : V) : List (Str × V) := [("place", u), ("code", v)]
theorem fPairs_place (v u : V) : (fPairs v u).lookup ("place" : Str) = some u := by simp [fPairs, List.lookup]
theorem fPairs_code (v u : V) : (fPairs v u).lookup ("code" : Str) = some v := by
  have q : (("code" : Str) == ("place" : Str)) = false := by decide +kernel
  simp [fPairs, List.lookup, q]
theorem relO_flt {v u : V} {v' u' : Value} (r : RelV v v') (r2 : RelV u u') (f : Str) : RelO (List.lookup f (fPairs v u)) (PySem.FltX.fMap v' u' f) := by
  unfold PySem.FltX.fMap
  by_cases hp : f = "place"
  · subst hp
    rw [if_pos rfl, fPairs_place]
    exact r2
  · rw [if_neg hp]
    by_cases hw : f = "code"
    · subst hw
      rw [if_pos rfl, fPairs_code]
      exact r
    · rw [if_neg hw]
      have qp : (f == ("place" : Str)) = false := by simpa using hp
      have qw : (f == ("code" : Str)) = false := by simpa using hw
      have q2 : List.lookup f (fPairs v u) = none := by simp [fPairs, List.lookup, qp, qw]
      rw [q2]
      trivial
section
variable {X : Cx} {C fI : Addr}
/-- Fault(a, b) -/
def tMkFlt (C : Addr) (ta : TA) : St → Hp → XK → Prop := fun σ H Q => ta σ H fun vs H1 => ∃ v u, vs = [v, u] ∧ ∀ d, H1 d = none → Q (.ref C) (some d) (upd H1 d (.xd (fPairs v u)))
theorem pmk_flt {a b : Expr} {ta : TA} {p pos : Pos} {k : Nat} (T : PySem.FltX.FltTxt X.K X.mg C fI) (hr : Room k X.A) (ha : PA X [a, b] ta) (hg : Gl X "Fault" := by rfl)
    (he : starEach (a :: [b]) X.env = (false, eval a X.env) :: starEach [b] X.env := by rfl) (hpl : (backTo pos (starEach [b] X.env)).any (·.1) = false := by rfl) :
    PMk X (.Call (.Name "Fault" p) [a, b] [] pos) (tMkFlt C ta) := by
  intro pins s σ H Q I h
  refine wpAny_Call_Name_kw (ld_glob I hg T.gC ?_)
  refine PySem.W.callWith_K (h₀ := X.base) I.ok.mod.kin T.kC (thn (ha.run pos pins s σ H _ I h) fun us s1 hh => ?_) he hpl
  obtain ⟨vs, H1, I1, r1, v, u, ev, q1⟩ := hh
  subst ev
  refine ⟨I1.kIn, ?_⟩
  cases r1 with
  | cons rv rn =>
    rename_i v' us'
    cases rn with
    | cons ru rm =>
      rename_i u' us''
      cases rm
      show wpAny _ _ (call (.ref C) [v', u']) _ _ _
      have hlim := I1.nolimit
      obtain ⟨hp, g, dr, tk, os⟩ := s1
      refine wpAny_call (PySem.FltX.flt_made T I1.kIn hlim (by have := hr.dp; omega) fun h' tk' e d M => ?_)
      show MkP X pins σ Q (.ref e) ⟨h', g, dr, tk', os⟩
      obtain ⟨oe, fv, hoe, hc, hd, hdat, h1⟩ := M.obj
      have hns := M.ns
      obtain ⟨G', g1, g2⟩ := restrict h' fun b => decide (b ≠ e)
      have gk : ∀ b, b ≠ e → G'.get? b = h'.get? b := fun b hb => g1 b (decide_eq_true hb)
      have ge : G'.get? e = none := g2 e (by simp)
      have old : ∀ b o, hp.get? b = some o → G'.get? b = some o := fun b o q => (gk b (Nat.ne_of_lt (Nat.lt_of_lt_of_le (Heap.lt_size q) M.new))).trans (M.keep b o q)
      have ob : ObjOk X.prog X.w (upd H1 d (.xd (fPairs v u))) G' d (.xd (fPairs v u)) :=
        ⟨_, hns.at (fun o q => (gk d M.dne).trans q), fun f => relO_flt rv ru f⟩
      have J : Inv X pins σ (upd H1 d (.xd (fPairs v u))) ⟨G', g, dr, tk', os⟩ := I1.laid (t' := tk') old M.dbig ob
      refine ⟨e, oe, fv, ⟨G', g, dr, tk', os⟩, _, .ref C, some d, rfl, J, fun b o q => ?_, ge, hoe, ⟨hc, hd⟩, hdat, h1, ?_, rfl, I1.bare, raises_own T.exC T.tyC, q1 d (I1.hok.fresh M.dbig)⟩
      · by_cases hb : b = e
        · have q' : G'.get? b = some o := q
          rw [hb, ge] at q'; cases q'
        · exact (gk b hb).symm.trans q
      · rw [upd_ne (Ne.symm M.dne)]
        exact I1.hok.fresh M.new
/-- raise Fault(a, b) -/
def tRaiseFlt (C : Addr) (W : WX) (ta : TA) : TS := fun _ σ H => tMkFlt C ta σ H fun cls d H' => W cls d σ H'
theorem ps_raiseFlt {a b : Expr} {ta : TA} {W : WX} {p pos pos2 : Pos} {k : Nat} (hc : X.calm = true) (T : PySem.FltX.FltTxt X.K X.mg C fI) (hr : Room k X.A) (tk : Takes X W) (ha : PA X [a, b] ta) (hg : Gl X "Fault" := by rfl)
    (he : starEach (a :: [b]) X.env = (false, eval a X.env) :: starEach [b] X.env := by rfl) (hpl : (backTo pos (starEach [b] X.env)).any (·.1) = false := by rfl) :
    PS X (.Raise (some (.Call (.Name "Fault" p) [a, b] [] pos)) none pos2) (tRaiseFlt C W ta) := ps_raise hc tk (pmk_flt T hr ha hg he hpl)
end
end L2
/-! zip of three lists, as a for walks it -/
namespace PySem
namespace Tri
open PySem
abbrev IsTrip (h : Heap) (T : Addr) (a b c : Value) : Prop := h.get? T = some { cls := .type "tuple", data := .seq #[a, b, c] }
theorem ad {a b : Nat} (h : a ≠ b) : @Ne Addr a b := h
section
variable {prog : Program} {w : World} {A : Around} {E : Value → Shared → Prop} {s : Shared}
theorem upd_trip {T : Addr} {a b c x : Value} {k : Nat} {Q : Unit → Shared → Prop} (hT : IsTrip s.heap T a b c)
    (h : ∀ h', h'.get? T = some { cls := .type "tuple", data := .seq ((#[a, b, c] : Array Value).setIfInBounds k x) } → Heap.SameBut T s.heap h' → Q () { s with heap := h' }) :
    wpAny (model prog w) A (updateSeq T (·.setIfInBounds k x)) Q E s := by
  refine wpAny_updateSeq hT rfl (h _ ?_ (Heap.SameBut.update ..))
  rw [Heap.get?_update_self _ hT rfl]
  simp [Obj.mapSeq]
/-- the places: n, n + 1, n + 2 the iterators, n + 3 the tuple of them, n + 4 the tuple given out, n + 5 the zip -/
theorem tri_item {n l1 l2 l3 : Nat} {k : Nat} {xs ys zs : Array Value} {x y t a b c : Value} {Q : Value → Shared → Prop} (L1 : l1 < n) (L2 : l2 < n) (L3 : l3 < n)
    (hz : IsZip s.heap (n + 5) (n + 3) (n + 4) .none) (hTI : IsTrip s.heap (n + 3) (.ref n) (.ref (n + 1)) (.ref (n + 2))) (hTO : IsTrip s.heap (n + 4) a b c)
    (h1 : s.heap.IsListIter n l1 k) (h2 : s.heap.IsListIter (n + 1) l2 k) (h3 : s.heap.IsListIter (n + 2) l3 k) (hl1 : s.heap.IsList l1 xs) (hl2 : s.heap.IsList l2 ys) (hl3 : s.heap.IsList l3 zs)
    (hx : xs[k]? = some x) (hy : ys[k]? = some y) (ht : zs[k]? = some t)
    (hQ : ∀ h', IsZip h' (n + 5) (n + 3) (n + 4) (rawInt s.heap.objs.size) → IsTrip h' (n + 4) x y t → h'.IsListIter n l1 (k + 1) → h'.IsListIter (n + 1) l2 (k + 1) → h'.IsListIter (n + 2) l3 (k + 1) → IsTrip h' s.heap.objs.size x y t → h'.objs.size = s.heap.objs.size + 1 →
      (∀ c o, c ≠ n + 5 → c ≠ n + 4 → c ≠ n → c ≠ n + 1 → c ≠ n + 2 → s.heap.get? c = some o → h'.get? c = some o) → Q (.ref s.heap.objs.size) { s with heap := h' }) :
    wpAny (model prog w) A (Builtin.«zip.__next__» ⟨[.ref (n + 5)], []⟩) (fun fin s' => ∃ v, fin = .done (.ret v) ∧ Q v s') E s := by
  show wpAny _ _ (field (.ref (n + 5)) 2 >>= _) _ _ _
  refine wpAny_bind (wpAny_field hz rfl (x := .bool false) rfl ?_)
  show wpAny _ _ (field (.ref (n + 5)) 3 >>= _) _ _ _
  refine wpAny_bind (wpAny_field hz rfl (x := .ref (n + 3)) rfl ?_)
  refine wpAny_bind (wpAny_seqItems hTI rfl ?_)
  show wpAny _ _ (Builtin.SmallTypes.ownedTupleIsFree (.ref (n + 5)) >>= _) _ _ _
  refine wpAny_bind ?_
  unfold Builtin.SmallTypes.ownedTupleIsFree
  refine wpAny_bind (wpAny_field hz rfl (x := .none) rfl (wpAny_pure ?_))
  simp only [if_true]
  refine wpAny_bind (wpAny_rule ?_)
  refine wpAny_bind (wpAny_field hz rfl (x := .ref (n + 4)) rfl ?_)
  refine wpAny_bind (wpAny_setField_rec hz (by simp) fun h₁ hz₁ hs₁ => ?_)
  replace hz₁ : IsZip h₁ (n + 5) (n + 3) (n + 4) .ellipsis := hz₁
  refine wpAny_bind ?_
  simp only [List.zipIdx_cons, List.zipIdx_nil, List.forIn_cons, List.forIn_nil]
  -- the first
  refine wpAny_bind (wpAny_bind (wpAny_onRaise ?_))
  show wpAny _ _ (Builtin.SmallTypes.nextOf (.ref n) >>= _) _ _ _
  refine wpAny_bind (wpAny_nextOf_list_item (h1.extBut hs₁.extBut (ad (by omega))) (hl1.extBut hs₁.extBut (ad (by omega))) hx fun h₂ h1₂ hs₂ => wpAny_pure ?_)
  have hTO₂ : IsTrip h₂ (n + 4) a b c := hs₂.extBut _ _ (ad (by omega)) (hs₁.extBut _ _ (ad (by omega)) hTO)
  refine wpAny_bind (wpAny_seqItems hTO₂ rfl ?_)
  refine wpAny_bind (upd_trip hTO₂ fun h₃ hTO₃ hs₃ => ?_)
  replace hTO₃ : IsTrip h₃ (n + 4) x b c := hTO₃
  refine wpAny_bind (wpAny_letGo (wpAny_pure ?_))
  -- the second
  refine wpAny_bind (wpAny_bind (wpAny_onRaise ?_))
  show wpAny _ _ (Builtin.SmallTypes.nextOf (.ref (n + 1)) >>= _) _ _ _
  refine wpAny_bind (wpAny_nextOf_list_item (((h2.extBut hs₁.extBut (ad (by omega))).extBut hs₂.extBut (ad (by omega))).extBut hs₃.extBut (ad (by omega)))
    (((hl2.extBut hs₁.extBut (ad (by omega))).extBut hs₂.extBut (ad (by omega))).extBut hs₃.extBut (ad (by omega))) hy fun h₄ h2₄ hs₄ => wpAny_pure ?_)
  have hTO₄ : IsTrip h₄ (n + 4) x b c := hs₄.extBut _ _ (ad (by omega)) hTO₃
  refine wpAny_bind (wpAny_seqItems hTO₄ rfl ?_)
  refine wpAny_bind (upd_trip hTO₄ fun h₅ hTO₅ hs₅ => ?_)
  replace hTO₅ : IsTrip h₅ (n + 4) x y c := hTO₅
  refine wpAny_bind (wpAny_letGo (wpAny_pure ?_))
  -- the third
  refine wpAny_bind (wpAny_bind (wpAny_onRaise ?_))
  show wpAny _ _ (Builtin.SmallTypes.nextOf (.ref (n + 2)) >>= _) _ _ _
  refine wpAny_bind (wpAny_nextOf_list_item (((((h3.extBut hs₁.extBut (ad (by omega))).extBut hs₂.extBut (ad (by omega))).extBut hs₃.extBut (ad (by omega))).extBut hs₄.extBut (ad (by omega))).extBut hs₅.extBut (ad (by omega)))
    (((((hl3.extBut hs₁.extBut (ad (by omega))).extBut hs₂.extBut (ad (by omega))).extBut hs₃.extBut (ad (by omega))).extBut hs₄.extBut (ad (by omega))).extBut hs₅.extBut (ad (by omega))) ht fun h₆ h3₆ hs₆ => wpAny_pure ?_)
  have hTO₆ : IsTrip h₆ (n + 4) x y c := hs₆.extBut _ _ (ad (by omega)) hTO₅
  refine wpAny_bind (wpAny_seqItems hTO₆ rfl ?_)
  refine wpAny_bind (upd_trip hTO₆ fun h₇ hTO₇ hs₇ => ?_)
  replace hTO₇ : IsTrip h₇ (n + 4) x y t := hTO₇
  refine wpAny_bind (wpAny_letGo (wpAny_pure (wpAny_pure ?_)))
  refine wpAny_bind (wpAny_seqItems hTO₇ rfl ?_)
  refine wpAny_bind (wpAny_newTuple ?_)
  have hsz : h₇.objs.size = s.heap.objs.size := by rw [hs₇.1, hs₆.1, hs₅.1, hs₄.1, hs₃.1, hs₂.1, hs₁.1]
  have hz₇ : IsZip h₇ (n + 5) (n + 3) (n + 4) .ellipsis := hs₇.extBut _ _ (ad (by omega)) (hs₆.extBut _ _ (ad (by omega)) (hs₅.extBut _ _ (ad (by omega)) (hs₄.extBut _ _ (ad (by omega)) (hs₃.extBut _ _ (ad (by omega)) (hs₂.extBut _ _ (ad (by omega)) hz₁)))))
  have hk₇ : ∀ c o, c ≠ n + 5 → c ≠ n + 4 → c ≠ n → c ≠ n + 1 → c ≠ n + 2 → s.heap.get? c = some o → h₇.get? c = some o := fun c o c1 c2 c3 c4 c5 e =>
    hs₇.extBut _ _ c2 (hs₆.extBut _ _ c5 (hs₅.extBut _ _ c2 (hs₄.extBut _ _ c4 (hs₃.extBut _ _ c2 (hs₂.extBut _ _ c3 (hs₁.extBut _ _ c1 e))))))
  have h1₇ : h₇.IsListIter n l1 (k + 1) := ((((h1₂.extBut hs₃.extBut (ad (by omega))).extBut hs₄.extBut (ad (by omega))).extBut hs₅.extBut (ad (by omega))).extBut hs₆.extBut (ad (by omega))).extBut hs₇.extBut (ad (by omega))
  have h2₇ : h₇.IsListIter (n + 1) l2 (k + 1) := ((h2₄.extBut hs₅.extBut (ad (by omega))).extBut hs₆.extBut (ad (by omega))).extBut hs₇.extBut (ad (by omega))
  have h3₇ : h₇.IsListIter (n + 2) l3 (k + 1) := h3₆.extBut hs₇.extBut (ad (by omega))
  have hzlt : n + 5 < h₇.objs.size := Heap.lt_size hz₇
  show wpAny _ _ (Builtin.SmallTypes.ownedTupleHandOut (.ref (n + 5)) (.ref h₇.objs.size) >>= _) _ _ _
  refine wpAny_bind ?_
  unfold Builtin.SmallTypes.ownedTupleHandOut
  have hz₈ : IsZip (h₇.push { cls := .type "tuple", data := .seq #[x, y, t] }) (n + 5) (n + 3) (n + 4) .ellipsis := Heap.get?_push_of_some _ hz₇
  refine wpAny_bind (wpAny_setField_rec hz₈ (by simp) fun h₉ hz₉ hs₉ => ?_)
  replace hz₉ : IsZip h₉ (n + 5) (n + 3) (n + 4) (rawInt h₇.objs.size) := hz₉
  refine wpAny_setField_rec hz₉ (by simp) fun hA hzA hsA => ?_
  replace hzA : IsZip hA (n + 5) (n + 3) (n + 4) (rawInt h₇.objs.size) := hzA
  have up : ∀ c o, c ≠ n + 5 → h₇.get? c = some o → hA.get? c = some o := fun c o c1 e => hsA.extBut _ _ c1 (hs₉.extBut _ _ c1 (Heap.get?_push_of_some _ e))
  have hTA : IsTrip hA h₇.objs.size x y t := hsA.extBut _ _ (Nat.ne_of_gt hzlt) (hs₉.extBut _ _ (Nat.ne_of_gt hzlt) (Heap.get?_push_size _ rfl))
  have hzz : hA.objs.size = h₇.objs.size + 1 := by rw [hsA.1, hs₉.1, Heap.size_push]
  rw [hsz] at hzA hTA hzz
  refine wpAny_pure ⟨_, rfl, ?_⟩
  show Q (.ref h₇.objs.size) _
  rw [hsz]
  exact hQ hA hzA (up _ _ (ad (by omega)) hTO₇) (h1₇.at fun o e => up _ o (ad (by omega)) e) (h2₇.at fun o e => up _ o (ad (by omega)) e) (h3₇.at fun o e => up _ o (ad (by omega)) e) hTA hzz fun c o c1 c2 c3 c4 c5 e => up c o c1 (hk₇ c o c1 c2 c3 c4 c5 e)
/-- all three end together: the first one's end is the zip's -/
theorem tri_end {n l1 : Nat} {k : Nat} {xs : Array Value} {a b c : Value} {Q : Fin → Shared → Prop} (hh : A.handled = none) (L1 : l1 < n)
    (hz : IsZip s.heap (n + 5) (n + 3) (n + 4) .none) (hTI : IsTrip s.heap (n + 3) (.ref n) (.ref (n + 1)) (.ref (n + 2))) (hTO : IsTrip s.heap (n + 4) a b c)
    (h1 : s.heap.IsListIter n l1 k) (hl1 : s.heap.IsList l1 xs) (hx : xs[k]? = none)
    (hE : ∀ h' e, (∀ c o, c ≠ n + 5 → c ≠ n → s.heap.get? c = some o → h'.get? c = some o) → (∃ o, h'.get? e = some o ∧ o.cls = .type "StopIteration") → E (.ref e) { s with heap := h' }) :
    wpAny (model prog w) A (Builtin.«zip.__next__» ⟨[.ref (n + 5)], []⟩) Q E s := by
  show wpAny _ _ (field (.ref (n + 5)) 2 >>= _) _ _ _
  refine wpAny_bind (wpAny_field hz rfl (x := .bool false) rfl ?_)
  show wpAny _ _ (field (.ref (n + 5)) 3 >>= _) _ _ _
  refine wpAny_bind (wpAny_field hz rfl (x := .ref (n + 3)) rfl ?_)
  refine wpAny_bind (wpAny_seqItems hTI rfl ?_)
  show wpAny _ _ (Builtin.SmallTypes.ownedTupleIsFree (.ref (n + 5)) >>= _) _ _ _
  refine wpAny_bind ?_
  unfold Builtin.SmallTypes.ownedTupleIsFree
  refine wpAny_bind (wpAny_field hz rfl (x := .none) rfl (wpAny_pure ?_))
  simp only [if_true]
  refine wpAny_bind (wpAny_rule ?_)
  refine wpAny_bind (wpAny_field hz rfl (x := .ref (n + 4)) rfl ?_)
  refine wpAny_bind (wpAny_setField_rec hz (by simp) fun h₁ hz₁ hs₁ => ?_)
  replace hz₁ : IsZip h₁ (n + 5) (n + 3) (n + 4) .ellipsis := hz₁
  refine wpAny_bind ?_
  simp only [List.zipIdx_cons, List.zipIdx_nil, List.forIn_cons, List.forIn_nil]
  refine wpAny_bind (wpAny_bind (wpAny_onRaise ?_))
  show wpAny _ _ (Builtin.SmallTypes.nextOf (.ref n) >>= _) _ _ _
  refine wpAny_bind (wpAny_nextOf_list_end hh (h1.extBut hs₁.extBut (ad (by omega))) (hl1.extBut hs₁.extBut (ad (by omega))) hx fun h₂ e hs₂ he => ?_)
  obtain ⟨oe, hoe, hce⟩ := he
  have hz₂ : IsZip h₂ (n + 5) (n + 3) (n + 4) .ellipsis := hs₂ _ _ (ad (by omega)) hz₁
  have hez : e ≠ n + 5 := fun x => by subst x; rw [hz₂] at hoe; cases hoe; simp at hce
  refine wpAny_setField_rec hz₂ (by simp) fun h₃ _ hs₃ => hE h₃ e (fun c o c1 c3 x => hs₃.extBut _ _ c1 (hs₂ _ _ c3 (hs₁.extBut _ _ c1 x))) ⟨oe, hs₃.extBut _ _ hez hoe, hce⟩
theorem next_item {n l1 l2 l3 : Nat} {k : Nat} {xs ys zs : Array Value} {x y t a b c : Value} {Q : Option Value → Shared → Prop} (L1 : l1 < n) (L2 : l2 < n) (L3 : l3 < n)
    (hz : IsZip s.heap (n + 5) (n + 3) (n + 4) .none) (hTI : IsTrip s.heap (n + 3) (.ref n) (.ref (n + 1)) (.ref (n + 2))) (hTO : IsTrip s.heap (n + 4) a b c)
    (h1 : s.heap.IsListIter n l1 k) (h2 : s.heap.IsListIter (n + 1) l2 k) (h3 : s.heap.IsListIter (n + 2) l3 k) (hl1 : s.heap.IsList l1 xs) (hl2 : s.heap.IsList l2 ys) (hl3 : s.heap.IsList l3 zs)
    (hx : xs[k]? = some x) (hy : ys[k]? = some y) (ht : zs[k]? = some t)
    (hQ : ∀ h', IsZip h' (n + 5) (n + 3) (n + 4) (rawInt s.heap.objs.size) → IsTrip h' (n + 4) x y t → h'.IsListIter n l1 (k + 1) → h'.IsListIter (n + 1) l2 (k + 1) → h'.IsListIter (n + 2) l3 (k + 1) → IsTrip h' s.heap.objs.size x y t → h'.objs.size = s.heap.objs.size + 1 →
      (∀ c o, c ≠ n + 5 → c ≠ n + 4 → c ≠ n → c ≠ n + 1 → c ≠ n + 2 → s.heap.get? c = some o → h'.get? c = some o) → Q (some (.ref s.heap.objs.size)) { s with heap := h' }) :
    wpAny (model prog w) A (pyNext (.ref (n + 5))) Q E s := by
  have hT : s.TypeIs (.ref (n + 5)) "zip" := ⟨_, hz, rfl⟩
  unfold pyNext
  exact wpAny_bind (wpAny_attempt (wpAny_callSpecial?_slot (name := Str.ofString "__next__") hT F.slot_zip_next
    (wpAny_call_entry F.slot_zip_next hT F.entry_zip_next
      (tri_item L1 L2 L3 hz hTI hTO h1 h2 h3 hl1 hl2 hl3 hx hy ht fun h' a1 a2 a3 a4 a5 a6 a7 a8 => wpAny_pure (hQ h' a1 a2 a3 a4 a5 a6 a7 a8)) (F.args_zip_next_1 _))))
theorem next_end {n l1 : Nat} {k : Nat} {xs : Array Value} {a b c : Value} {Q : Option Value → Shared → Prop} (hh : A.handled = none) (L1 : l1 < n)
    (hz : IsZip s.heap (n + 5) (n + 3) (n + 4) .none) (hTI : IsTrip s.heap (n + 3) (.ref n) (.ref (n + 1)) (.ref (n + 2))) (hTO : IsTrip s.heap (n + 4) a b c)
    (h1 : s.heap.IsListIter n l1 k) (hl1 : s.heap.IsList l1 xs) (hx : xs[k]? = none)
    (hQ : ∀ h', (∀ c o, c ≠ n + 5 → c ≠ n → s.heap.get? c = some o → h'.get? c = some o) → Q none { s with heap := h' }) : wpAny (model prog w) A (pyNext (.ref (n + 5))) Q E s := by
  have hT : s.TypeIs (.ref (n + 5)) "zip" := ⟨_, hz, rfl⟩
  unfold pyNext
  refine wpAny_bind (wpAny_attempt (wpAny_callSpecial?_slot (name := Str.ofString "__next__") hT F.slot_zip_next
    (wpAny_call_entry F.slot_zip_next hT F.entry_zip_next (tri_end hh L1 hz hTI hTO h1 hl1 hx fun h' e hk he => ?_) (F.args_zip_next_1 _))))
  obtain ⟨o, ho, hc⟩ := he
  refine wpAny_bind (wpAny_isInstance (T := "StopIteration") (b := true) ⟨o, ho, hc⟩ isSubtype_stop ?_)
  exact wpAny_pure (hQ _ hk)
end
abbrev tH1 (h : Heap) (l1 : Addr) : Heap := h.push { cls := .type "list_iterator", data := .fields #[.ref l1, .int 0 0] }
abbrev tH2 (h : Heap) (l1 l2 : Addr) : Heap := (tH1 h l1).push { cls := .type "list_iterator", data := .fields #[.ref l2, .int 0 0] }
abbrev tH3 (h : Heap) (l1 l2 l3 : Addr) : Heap := (tH2 h l1 l2).push { cls := .type "list_iterator", data := .fields #[.ref l3, .int 0 0] }
abbrev tH4 (h : Heap) (l1 l2 l3 : Addr) : Heap := (tH3 h l1 l2 l3).push { cls := .type "tuple", data := .seq #[.ref h.objs.size, .ref (tH1 h l1).objs.size, .ref (tH2 h l1 l2).objs.size] }
abbrev tH5 (h : Heap) (l1 l2 l3 : Addr) : Heap := (tH4 h l1 l2 l3).push { cls := .type "tuple", data := .seq #[.none, .none, .none] }
abbrev tH6 (h : Heap) (l1 l2 l3 : Addr) : Heap := (tH5 h l1 l2 l3).push { cls := .type "zip", data := .fields #[.none, .bool false, .bool false, .ref (tH3 h l1 l2 l3).objs.size, .ref (tH4 h l1 l2 l3).objs.size] }
theorem typeCall_3 (a b c : Value) : checkTypeCall "zip" ⟨[a, b, c], []⟩ = pure () := by kernel_rfl
theorem newCall_3 (a b c : Value) : checkBuiltinCall "zip.__new__" ⟨[.type "zip", a, b, c], []⟩ = pure () := by kernel_rfl
theorem args_init_4 (a b c d : Value) : argsOk "object.__init__" ⟨[a, b, c, d], []⟩ := by
  unfold argsOk; rw [signature?_of (id := "object.__init__") (n := ['_', '_', 't', 'i', 'n', 'i', '_', '_']) (o := ['t', 'c', 'e', 'j', 'b', 'o']) (by kernel_rfl) F.owner_object]; kernel_rfl
theorem meets_new3 (l1 l2 l3 : Addr) (xs ys zs : Array Value) :
    Meets (Builtin.«zip.__new__» ⟨[.type "zip", .ref l1, .ref l2, .ref l3], []⟩) (fun _ R s => s.heap.IsList l1 xs ∧ s.heap.IsList l2 ys ∧ s.heap.IsList l3 zs ∧
      R (.ok (.ret (.ref (tH5 s.heap l1 l2 l3).objs.size))) { s with heap := tH6 s.heap l1 l2 l3 }) :=
  .of_wp fun prog w A R s h => by
    obtain ⟨hp, g, d, tk, os⟩ := s; obtain ⟨hl1, hl2, hl3, h⟩ := h
    have hsub := sub_zip
    have hL1 : Heap.IsList (Shared.heap ⟨hp, g, d, tk, os⟩) l1 xs := hl1
    have hL2 : Heap.IsList (Shared.heap ⟨hp.push { cls := .type "list_iterator", data := .fields #[.ref l1, .int 0 0] }, g, d, tk, os⟩) l2 ys := Heap.IsList.push hl2 _
    have hL3 : Heap.IsList (Shared.heap ⟨(hp.push { cls := .type "list_iterator", data := .fields #[.ref l1, .int 0 0] }).push { cls := .type "list_iterator", data := .fields #[.ref l2, .int 0 0] }, g, d, tk, os⟩) l3 zs := Heap.IsList.push (Heap.IsList.push hl3 _) _
    wp_walk using wpAny_pyIter_list hL1, wpAny_pyIter_list hL2, wpAny_pyIter_list hL3
    exact ⟨_, rfl, h⟩
section
variable {prog : Program} {w : World} {A : Around} {E : Value → Shared → Prop} {s : Shared}
theorem call_zip_3 {l1 l2 l3 : Addr} {xs ys zs : Array Value} {Q : Value → Shared → Prop} (hl1 : s.heap.IsList l1 xs) (hl2 : s.heap.IsList l2 ys) (hl3 : s.heap.IsList l3 zs)
    (h : ∀ h', IsZip h' (s.heap.objs.size + 5) (s.heap.objs.size + 3) (s.heap.objs.size + 4) .none → IsTrip h' (s.heap.objs.size + 3) (.ref s.heap.objs.size) (.ref (s.heap.objs.size + 1)) (.ref (s.heap.objs.size + 2)) →
      IsTrip h' (s.heap.objs.size + 4) .none .none .none → h'.IsListIter s.heap.objs.size l1 0 → h'.IsListIter (s.heap.objs.size + 1) l2 0 → h'.IsListIter (s.heap.objs.size + 2) l3 0 → h'.objs.size = s.heap.objs.size + 6 →
      (∀ c o, s.heap.get? c = some o → h'.get? c = some o) → Q (.ref (s.heap.objs.size + 5)) { s with heap := h' }) :
    wpAny (model prog w) A (call (.type "zip") [.ref l1, .ref l2, .ref l3]) Q E s := by
  refine callType_new F.called_zip (by decide) (typeCall_3 _ _ _) (newCall_3 _ _ _) (fun obj => args_init_4 obj _ _ _) F.entry_zip_new
    (meets_new3 l1 l2 l3 xs ys zs) ⟨hl1, hl2, hl3, ?_⟩
  have z1 : (tH1 s.heap l1).objs.size = s.heap.objs.size + 1 := Heap.size_push ..
  have z2 : (tH2 s.heap l1 l2).objs.size = s.heap.objs.size + 2 := by rw [Heap.size_push, z1]
  have z3 : (tH3 s.heap l1 l2 l3).objs.size = s.heap.objs.size + 3 := by rw [Heap.size_push, z2]
  have z4 : (tH4 s.heap l1 l2 l3).objs.size = s.heap.objs.size + 4 := by rw [Heap.size_push, z3]
  have z5 : (tH5 s.heap l1 l2 l3).objs.size = s.heap.objs.size + 5 := by rw [Heap.size_push, z4]
  have z6 : (tH6 s.heap l1 l2 l3).objs.size = s.heap.objs.size + 6 := by rw [Heap.size_push, z5]
  have g6 : (tH6 s.heap l1 l2 l3).get? (tH5 s.heap l1 l2 l3).objs.size = some _ := Heap.get?_push_size _ rfl
  have g5 : (tH6 s.heap l1 l2 l3).get? (tH4 s.heap l1 l2 l3).objs.size = some _ := Heap.get?_push_of_some _ (Heap.get?_push_size _ rfl)
  have g4 : (tH6 s.heap l1 l2 l3).get? (tH3 s.heap l1 l2 l3).objs.size = some _ := Heap.get?_push_of_some _ (Heap.get?_push_of_some _ (Heap.get?_push_size _ rfl))
  have g3 : (tH6 s.heap l1 l2 l3).get? (tH2 s.heap l1 l2).objs.size = some _ := Heap.get?_push_of_some _ (Heap.get?_push_of_some _ (Heap.get?_push_of_some _ (Heap.get?_push_size _ rfl)))
  have g2 : (tH6 s.heap l1 l2 l3).get? (tH1 s.heap l1).objs.size = some _ := Heap.get?_push_of_some _ (Heap.get?_push_of_some _ (Heap.get?_push_of_some _ (Heap.get?_push_of_some _ (Heap.get?_push_size _ rfl))))
  have g1 : (tH6 s.heap l1 l2 l3).get? s.heap.objs.size = some _ := Heap.get?_push_of_some _ (Heap.get?_push_of_some _ (Heap.get?_push_of_some _ (Heap.get?_push_of_some _ (Heap.get?_push_of_some _ (Heap.get?_push_size _ rfl)))))
  show _ ∧ _
  rw [z3, z4, z5] at g6
  rw [z1, z2, z3] at g4
  rw [z4] at g5
  rw [z2] at g3
  rw [z1] at g2
  rw [z5]
  exact ⟨⟨_, g6, rfl⟩, h _ g6 g4 g5 ⟨_, g1, rfl, rfl⟩ ⟨_, g2, rfl, rfl⟩ ⟨_, g3, rfl, rfl⟩ z6 fun c o x =>
    Heap.get?_push_of_some _ (Heap.get?_push_of_some _ (Heap.get?_push_of_some _ (Heap.get?_push_of_some _ (Heap.get?_push_of_some _ (Heap.get?_push_of_some _ x)))))⟩
end
end Tri
end PySem
namespace L2
open PySem PySem.Spec PyProof.Rows PySem.Tri
/-- the lists at a, b and c as they stand at each turn, the items in new triples -/
def Itz3 (K : PySem.W.Frag) (a b c : Addr) : It :=
  ⟨fun i H => ∃ (xs ys zs : List V) (x y z : V), SqL K H a xs ∧ SqL K H b ys ∧ SqL K H c zs ∧ xs[i]? = some x ∧ ys[i]? = some y ∧ zs[i]? = some z,
    fun i H v H' => ∃ T x y z, v = .ref T ∧ H T = none ∧ H' = upd H T (.tup [x, y, z]) ∧ (∀ xs, SqL K H a xs → xs[i]? = some x) ∧ (∀ ys, SqL K H b ys → ys[i]? = some y) ∧ ∀ zs, SqL K H c zs → zs[i]? = some z,
    fun i H => ∃ xs : List V, SqL K H a xs ∧ xs.length ≤ i⟩
theorem mem6 {c n : Nat} (h : c ∈ [n + 5, n + 3, n + 4, n, n + 1, n + 2]) : n ≤ c ∧ c ≤ n + 5 := by
  simp only [List.mem_cons, List.not_mem_nil, or_false] at h
  omega
theorem mem6' {c n : Nat} (h : n ≤ c) (h' : c ≤ n + 5) : c ∈ [n + 5, n + 3, n + 4, n, n + 1, n + 2] := by
  simp only [List.mem_cons, List.not_mem_nil, or_false]
  omega
theorem turn_zip3 {P : Program} {w : World} {K : PySem.W.Frag} {elts : List Expr} {kk : Nat} {tpos : Pos} {a b c n : Nat} (La : a < n) (Lb : b < n) (Lc : c < n) :
    Turn P w K (.Tuple elts kk tpos) (Itz3 K a b c) [n + 5, n + 3, n + 4, n, n + 1, n + 2] (n + 5) (fun i h => IsZip h (n + 5) (n + 3) (n + 4) .none ∧ IsTrip h (n + 3) (.ref n) (.ref (n + 1)) (.ref (n + 2)) ∧ (∃ x y z, IsTrip h (n + 4) x y z) ∧ h.IsListIter n a i ∧ h.IsListIter (n + 1) b i ∧ h.IsListIter (n + 2) c i) where
  mem := by simp
  obj := fun i h st d hd => by
    obtain ⟨hz, hTI, ⟨x, y, z, hTO⟩, ⟨o1, e1, _, d1⟩, ⟨o2, e2, _, d2⟩, ⟨o3, e3, _, d3⟩⟩ := st
    have e' : d = n + 5 ∨ d = n + 3 ∨ d = n + 4 ∨ d = n ∨ d = n + 1 ∨ d = n + 2 := by simpa using hd
    rcases e' with q | q | q | q | q | q
    · rw [q]; exact ⟨_, hz, fun v q => nomatch q⟩
    · rw [q]; exact ⟨_, hTI, fun v q => nomatch q⟩
    · rw [q]; exact ⟨_, hTO, fun v q => nomatch q⟩
    · rw [q]; exact ⟨o1, e1, fun v q => by rw [d1] at q; cases q⟩
    · rw [q]; exact ⟨o2, e2, fun v q => by rw [d2] at q; cases q⟩
    · rw [q]; exact ⟨o3, e3, fun v q => by rw [d3] at q; cases q⟩
  keep := fun i h h' st k => by
    obtain ⟨hz, hTI, ⟨x, y, z, hTO⟩, h1, h2, h3⟩ := st
    exact ⟨k _ (by simp) _ hz, k _ (by simp) _ hTI, ⟨x, y, z, k _ (by simp) _ hTO⟩, h1.at fun o q => k _ (by simp) o q, h2.at fun o q => k _ (by simp) o q, h3.at fun o q => k _ (by simp) o q⟩
  item := by
    intro X hP hw hK hc i pins s σ H E I hf st hg
    subst hP hw hK
    obtain ⟨hz, hTI, ⟨x0, y0, z0, hTO⟩, h1, h2, h3⟩ := st
    obtain ⟨xs, ys, zs, x, y, z, hqx, hqy, hqz, hx, hy, hzz⟩ := hg
    obtain ⟨its, rv, p, _⟩ := I.list hqx
    obtain ⟨its2, rv2, p2, _⟩ := I.list hqy
    obtain ⟨its3, rv3, p3, _⟩ := I.list hqz
    obtain ⟨u, hu, ru⟩ := rv.get hx
    obtain ⟨u2, hu2, ru2⟩ := rv2.get hy
    obtain ⟨u3, hu3, ru3⟩ := rv3.get hzz
    have hzl : n + 5 < s.heap.objs.size := Heap.lt_size hz
    refine PySem.Tri.next_item La Lb Lc hz hTI hTO h1 h2 h3 p.isList p2.isList p3.isList (x := u) (y := u2) (t := u3) (by simpa using hu) (by simpa using hu2) (by simpa using hu3) fun h' z' TO' h1' h2' h3' hT hsz hk => ?_
    refine ⟨_, rfl, wpAny_letOwnedTupleGo_zip (s := { s with heap := h' }) z' fun h'' z'' sb => ?_⟩
    have hT2 : h''.get? s.heap.objs.size = some { cls := .type "tuple", data := .seq #[u, u2, u3] } := (sb.2 _ (Nat.ne_of_gt hzl)).trans hT
    have new : ObjOk X.prog X.w (upd H s.heap.objs.size (.tup [x, y, z])) h'' s.heap.objs.size (.tup [x, y, z]) :=
      ⟨by show 3 ≤ sizeLine; decide, [u, u2, u3], .cons ru (.cons ru2 (.cons ru3 .nil)), ⟨_, hT2, rfl, _, rfl⟩⟩
    have I1 : Inv X pins σ (upd H s.heap.objs.size (.tup [x, y, z])) { s with heap := h'' } :=
      I.turnedNew (t' := s.toks) (ch := [n + 5, n + 3, n + 4, n, n + 1, n + 2]) (fun d o hb q => (sb.2 d (fun q' => hb (by simp [q']))).trans (hk d o (fun q' => hb (by simp [q'])) (fun q' => hb (by simp [q'])) (fun q' => hb (by simp [q'])) (fun q' => hb (by simp [q'])) (fun q' => hb (by simp [q'])) q)) hf (Nat.le_refl _) new
    refine ⟨.ref s.heap.objs.size, _, I1, rfl, ⟨_, x, y, z, rfl, I.hok.fresh (Nat.le_refl _), rfl, fun l hl => by rw [I.list_inj hl hqx]; exact hx, fun l hl => by rw [I.list_inj hl hqy]; exact hy, fun l hl => by rw [I.list_inj hl hqz]; exact hzz⟩, ⟨z'', ?_, ⟨u, u2, u3, ?_⟩, ?_, ?_, ?_⟩, fun d hdm => ?_⟩
    · exact (sb.2 _ (ad (by omega))).trans (hk _ _ (ad (by omega)) (ad (by omega)) (ad (by omega)) (ad (by omega)) (ad (by omega)) hTI)
    · exact (sb.2 _ (ad (by omega))).trans TO'
    · exact h1'.at fun o q => (sb.2 _ (ad (by omega))).trans q
    · exact h2'.at fun o q => (sb.2 _ (ad (by omega))).trans q
    · exact h3'.at fun o q => (sb.2 _ (ad (by omega))).trans q
    · have hlt : d < s.heap.objs.size := Nat.lt_of_le_of_lt (mem6 hdm).2 hzl
      rw [upd_ne (Nat.ne_of_lt hlt)]
      exact (hf d hdm).1
  done := by
    intro X hP hw hK hc i pins s σ H E I hf st hg
    subst hP hw hK
    obtain ⟨hz, hTI, ⟨x0, y0, z0, hTO⟩, h1, h2, h3⟩ := st
    obtain ⟨xs, hqx, hend⟩ := hg
    obtain ⟨its, rv, p, _⟩ := I.list hqx
    have l1 := rv.length
    have he : its.toArray[i]? = none := by simp; omega
    exact PySem.Tri.next_end (I.ok.hd hc) La hz hTI hTO h1 p.isList he fun h' hk => ⟨rfl, I.turnedL (t' := s.toks) (ch := [n + 5, n + 3, n + 4, n, n + 1, n + 2]) (fun d o hb q =>
      hk d o (fun q' => hb (by simp [q'])) (fun q' => hb (by simp [q'])) q) hf⟩
  self := fun A i s Q E st h => wpAny_pyIter_zip st.1 h
def iZip3 (K : PySem.W.Frag) (ta : TA) : TI := fun σ H R => ta σ H fun vs H1 => ∃ a b c xs ys zs, vs = [.ref a, .ref b, .ref c] ∧ SqL K H1 a xs ∧ SqL K H1 b ys ∧ SqL K H1 c zs ∧ R (Itz3 K a b c) H1
theorem pi_zip3 {X : Cx} {e e2 e3 : Expr} {ta : TA} {p pos tpos : Pos} {elts : List Expr} {kk : Nat} (hg : Gl X "zip") (hm : X.mg "zip" = none) (ha : PA X [e, e2, e3] ta)
    (hs : starEach [e, e2, e3] X.env = (false, eval e X.env) :: starEach [e2, e3] X.env := by rfl) (hpl : (backTo pos (starEach [e2, e3] X.env)).any (·.1) = false := by rfl) :
    PI X (.Tuple elts kk tpos) (.Call (.Name "zip" p) [e, e2, e3] [] pos) (iZip3 X.K ta) := by
  refine ⟨fun pins s σ H R I h => ?_⟩
  refine Call_ (ld_blt I hg hm PyProof.Rows.boot_zip (PyProof.Rows.callWith_type1 (thn (ha.run pos pins s σ H _ I h) fun us s1 ⟨vs, H1, I1, r1, q1⟩ => ?_) hs hpl))
  obtain ⟨a, b, c, xs, ys, zs, ex, hqx, hqy, hqz, q⟩ := q1
  subst ex
  cases r1 with
  | cons r rr =>
    cases rr with
    | cons r' rr =>
      cases rr with
      | cons r'' rr =>
        cases rr
        cases r
        cases r'
        cases r''
        obtain ⟨its, rv, p1, _⟩ := I1.list hqx
        obtain ⟨its2, rv2, p2, _⟩ := I1.list hqy
        obtain ⟨its3, rv3, p3, _⟩ := I1.list hqz
        have la : a < s1.heap.objs.size := p1.lt
        have lb : b < s1.heap.objs.size := p2.lt
        have lc : c < s1.heap.objs.size := p3.lt
        refine PySem.Tri.call_zip_3 p1.isList p2.isList p3.isList fun h' hz hTI hTO h1 h2 h3 hsz hk => wpAny_pyIter_zip hz ?_
        have I2 : Inv X pins σ H1 { s1 with heap := h' } := I1.kept (t' := s1.toks) hk
        refine ⟨s1.heap.objs.size + 5, [s1.heap.objs.size + 5, s1.heap.objs.size + 3, s1.heap.objs.size + 4, s1.heap.objs.size, s1.heap.objs.size + 1, s1.heap.objs.size + 2], _, _, H1, rfl, I2, turn_zip3 la lb lc, ⟨hz, hTI, ⟨_, _, _, hTO⟩, h1, h2, h3⟩, fun d hdm => ?_, q⟩
        have hle : s1.heap.objs.size ≤ d := (mem6 hdm).1
        exact I1.fpOk hle (I1.hok.fresh hle)
theorem for_zip3 {K : PySem.W.Frag} {a b c : Addr} {xs ys zs : List V} {g : TG} {tb : TS} {D : Ends} {σ : L2.St} {H : Hp} (hl : xs.length = ys.length) (hl' : xs.length = zs.length) (Pv : Nat → L2.St → Hp → Prop) (h0 : Pv 0 σ H) (hq : ∀ i σ H, Pv i σ H → SqL K H a xs ∧ SqL K H b ys ∧ SqL K H c zs)
    (hs : ∀ (i : Nat) (x y z : V) (T : Addr) (σ : L2.St) (H : Hp), xs[i]? = some x → ys[i]? = some y → zs[i]? = some z → Pv i σ H → H T = none → g (.ref T) σ (upd H T (.tup [x, y, z])) fun σ2 H2 => tb { D with nx := Pv (i + 1), ct := Pv (i + 1), bk := D.nx } σ2 H2) (hd : ∀ σ H, Pv xs.length σ H → D.nx σ H) :
    ∃ W : Nat → Nat → L2.St → Hp → Prop, (∃ m, W 0 m σ H) ∧ ∀ i m σ H, W i m σ H →
      ((Itz3 K a b c).stop i H ∧ D.nx σ H) ∨ ((Itz3 K a b c).go i H ∧ ∃ N : L2.St → Hp → Prop, (∀ σ' H', N σ' H' → ∃ m', m' < m ∧ W (i + 1) m' σ' H') ∧ ∀ v H', (Itz3 K a b c).yld i H v H' → g v σ H' fun σ2 H2 => tb { D with nx := N, ct := N, bk := D.nx } σ2 H2) := by
  refine ⟨fun i m σ H => m = xs.length - i ∧ i ≤ xs.length ∧ Pv i σ H, ⟨xs.length, rfl, Nat.zero_le _, h0⟩, ?_⟩
  rintro i m σ H ⟨rfl, hi, p⟩
  obtain ⟨qx, qy, qz⟩ := hq i σ H p
  by_cases hlt : i < xs.length
  · have hx : xs[i]? = some xs[i] := List.getElem?_eq_getElem hlt
    have hlt2 : i < ys.length := by omega
    have hlt3 : i < zs.length := by omega
    have hy : ys[i]? = some ys[i] := List.getElem?_eq_getElem hlt2
    have hz : zs[i]? = some zs[i] := List.getElem?_eq_getElem hlt3
    refine .inr ⟨⟨xs, ys, zs, _, _, _, qx, qy, qz, hx, hy, hz⟩, Pv (i + 1), fun σ' H' p' => ⟨xs.length - (i + 1), by omega, rfl, hlt, p'⟩, fun v H' y => ?_⟩
    obtain ⟨T, x', y', z', rfl, hT, rfl, f1, f2, f3⟩ := y
    exact hs i x' y' z' T σ H (f1 xs qx) (f2 ys qy) (f3 zs qz) p hT
  · have e : i = xs.length := by omega
    subst e
    exact .inl ⟨⟨xs, qx, Nat.le_refl _⟩, hd σ H p⟩
end L2
namespace L2
open PySem PySem.Spec PyProof.Rows
/-! a written dict whose keys are whole numbers -/
/-- its entries: at each whole number, the values -/
def KNum (K : PySem.W.Frag) (a : Addr) (f : Int → Option Value) : Prop :=
  ∃ es n, K.lookup a = some ⟨.type "dict", none, .dict es n, #[]⟩ ∧ (a == sysModules) = false ∧ (∀ e ∈ es, ∃ (k : Int) (t : PySem.Tok), e.key = .int k t ∧ e.hash = hashInt k) ∧ ∀ k, findBy Value.isInt es k = f k
theorem KNum.map {prog : Program} {w : World} {K : PySem.W.Frag} {a : Addr} {f : Int → Option Value} {h : Heap} (N : KNum K a f) (X : K.In h) : h.MapOf (intKind prog w) a f := by
  obtain ⟨es, n, hl, _, hk, hf⟩ := N
  refine ⟨_, es, n, X _ _ hl, ⟨rfl, rfl, rfl⟩, rfl, fun e he => ?_, hf⟩
  obtain ⟨k, t, e1, e2⟩ := hk e he
  exact ⟨k, by rw [e1]; simp [intKind, Value.isInt], e2⟩
theorem intKind_is (prog : Program) (w : World) (k : Int) (t : PySem.Tok) : (intKind prog w).is k (.int k t) = true := by simp [intKind, Value.isInt]
def rInNum (K : PySem.W.Frag) : R2 := fun x y H Q => ∃ (k : Int) (p : Addr) (f : Int → Option Value), x = .int k ∧ y = .ref p ∧ KNum K p f ∧ Q (.bl (f k).isSome) H
def rIxNum (K : PySem.W.Frag) : R2 := fun x y H Q => ∃ (p : Addr) (k : Int) (f : Int → Option Value) (u : Value) (v : V), x = .ref p ∧ y = .int k ∧ KNum K p f ∧ f k = some u ∧ RelV v u ∧ Q v H
section
variable {X : Cx}
theorem op_in_num : OpR X (compareOp .In) (rInNum X.K) := by
  intro pins s σ H x y v u Q I rx ry h
  obtain ⟨k, p, f, rfl, rfl, N, q⟩ := h
  obtain ⟨t, rfl⟩ := rx
  cases ry
  exact wpAny_in_of (intKind_is X.prog X.w k t) N.choose_spec.choose_spec.2.1 (N.map I.kIn) ⟨.bl (f k).isSome, H, I.tok _, rfl, q⟩
theorem ix_num : IxR X (rIxNum X.K) := by
  intro value slice pins s σ H x y v u Q I rx ry h hs
  obtain ⟨p, k, f, u0, r, rfl, rfl, N, e, ru, q⟩ := h
  obtain rfl : v = Value.ref p := rx
  obtain ⟨t, rfl⟩ := ry
  have hm : s.heap.MapOf (intKind X.prog X.w) p f := N.map I.kIn
  exact tail_any hm.typeIs slot_dict_getitem.lookup (wpAny_getItem_of (intKind_is X.prog X.w k t) hm e ⟨r, H, I.tok _, ru, q⟩) hs
/-! max(xs, default=d) -/
/-- the greatest of d's list: d if it is empty -/
def maxD (d : Int) : List Int → Int
  | [] => d
  | y :: ys => PySem.W.maxOf y ys
def rMaxDef (K : PySem.W.Frag) : List V → List V → Hp → VK → Prop := fun vs zs H Q => ∃ (a : Addr) (ns : List Int) (d : Int), vs = [.ref a] ∧ zs = [.int d] ∧ SqL K H a (ns.map V.int) ∧ Q (.int (maxD d ns)) H
theorem cr_maxDef (hc : X.calm = true) {k : Nat} (hr : Room k X.A) : CallRK X (.builtin "max") [Str.ofString "default"] (rMaxDef X.K) := by
  intro pins s σ H xs zs us ws Q I r1 r2 h
  obtain ⟨a, ns, d, rfl, rfl, hq, q⟩ := h
  obtain ⟨its, rv, hl, _⟩ := I.list hq
  cases r1 with
  | cons ra rn =>
    cases rn
    cases r2 with
    | cons rd rm =>
      cases rm
      rename_i u0 d0
      obtain rfl : u0 = Value.ref a := ra
      obtain ⟨td, rfl⟩ := rd
      refine PySem.W.max_list_datum_default (α := Int) (I.ok.hd hc) hl.isList (PySem.W.HoldAll.of_ints rv.ints) ?_ (fun e h' tk hk => ?_) (fun y ys i v h' tk e hi hv hk => ?_)
      · have := hr.units
        show X.A.units + 1 + 0 < cLine
        omega
      · subst e
        exact ⟨.int d, H, I.kept hk, ⟨td, rfl⟩, q⟩
      · subst e
        obtain ⟨as, hv⟩ := hv
        have hv' : PySem.Reads h' v (.int (PySem.W.maxOf y ys)) as := hv
        cases hv' with
        | int n t => exact ⟨.int _, H, I.kept hk, ⟨t, rfl⟩, q⟩
end
end L2
namespace Ub
open PySem PySem.Spec PyProof.Rows L2
/-! ### the text by places -/
def top (i : Nat) : Stmt := PySem.Challenge.pw_unbeaten_s01_answers.main.body.getD i (.Pass ⟨0, 0, 0, 0⟩)
/-! ### defs that may be called, methods, makers -/
/-- a def of the text under its name -/
structure Dn (K : PySem.W.Frag) (mg : Str → Option Value) (x : Str) (st : Stmt) (ps : List Str) : Prop where
  ex : ∃ f fd, Fun K x x st f fd ∧ mg x = some (.ref f) ∧ Binds K fd ps []
/-- a method of the class at C -/
structure Mn (K : PySem.W.Frag) (C : Addr) (m qual : Str) (st : Stmt) (ps : List Str) : Prop where
  ex : ∃ f fd, Fun K m qual st f fd ∧ Meth K C m f ∧ Binds K fd ps []
/-- the maker of the class at C -/
structure In (K : PySem.W.Frag) (mg : Str → Option Value) (x : Str) (C : Addr) (qual : Str) (st : Stmt) (ps : List Str) : Prop where
  ex : ∃ f fd, Fun K "__init__" qual st f fd ∧ Mk K C f ∧ mg x = some (.ref C) ∧ Binds K fd ps []
structure Ca (P : Program) (w : World) (K : PySem.W.Frag) (mg : Str → Option Value) (base : Heap) (CX : CXT) (k : Nat) (x : Str) (sp : Sp) : Prop where
  ex : ∃ (f : Addr) (fd : FuncData) (ps : List Str), FnOk P w K mg base CX k f fd ps sp ∧ mg x = some (.ref f) ∧ PySem.W.keepIn K (.ref f) = true ∧ Binds K fd ps []
structure Me (P : Program) (w : World) (K : PySem.W.Frag) (mg : Str → Option Value) (base : Heap) (CX : CXT) (k : Nat) (C : Addr) (m : Str) (sp : Sp) : Prop where
  ex : ∃ (f : Addr) (fd : FuncData) (ps : List Str), Meth K C m f ∧ FnOk P w K mg base CX k f fd ps sp ∧ Binds K fd ps []
structure Ma (P : Program) (w : World) (K : PySem.W.Frag) (mg : Str → Option Value) (base : Heap) (k : Nat) (x : Str) (C : Addr) (sp : Sp) : Prop where
  ex : ∃ (f : Addr) (fd : FuncData) (ps : List Str), Mk K C f ∧ FnOk P w K mg base CX0 k f fd ps sp ∧ mg x = some (.ref C) ∧ Binds K fd ps []
section
variable {P : Program} {w : World} {K : PySem.W.Frag} {mg : Str → Option Value} {base : Heap} {x m qual : Str} {st : Stmt} {N ps : List Str} {k : Nat} {sp : Sp} {C : Addr}
theorem Dn.ca (D : Dn K mg x st ps) (S : FnScope N ps (defScope st)) (len : ∀ vs H Q E, sp vs H Q E → vs.length = ps.length)
    (hbody : ∀ (f : Addr) (cdv : Value) (A : Around) (outer : List Env) (s : Shared) (H : Hp) (vs : List V) (Q : VK) (E : XK), Room k (A.deeper (envOfC x (defScope st) s.heap.objs.size f cdv)) → sp vs H Q E →
      ∃ t, PSs (cxOf CX0 P w K mg base N x (defScope st) f cdv A outer s H E).nox (defBody st) t ∧ t { nx := fun _ H' => Q .non H', rt := Q } (start N vs) H) : Ca P w K mg base CX0 (k + 1) x sp := by
  obtain ⟨f, fd, F, g, b⟩ := D.ex
  exact ⟨f, fd, ps, F.ok S len (hbody f), g, F.kp, b⟩
theorem Dn.cx (D : Dn K mg x st ps) (S : FnScope N ps (defScope st)) (len : ∀ vs H Q E, sp vs H Q E → vs.length = ps.length)
    (hbody : ∀ (f : Addr) (cdv : Value) (A : Around) (outer : List Env) (s : Shared) (H : Hp) (vs : List V) (Q : VK) (E : XK), Room k (A.deeper (envOfC x (defScope st) s.heap.objs.size f cdv)) → sp vs H Q E →
      ∃ t, PSs (cxOf (L2.CX P w) P w K mg base N x (defScope st) f cdv A outer s H E) (defBody st) t ∧ t { nx := fun _ H' => Q .non H', rt := Q } (start N vs) H) : Ca P w K mg base (L2.CX P w) (k + 1) x sp := by
  obtain ⟨f, fd, F, g, b⟩ := D.ex
  exact ⟨f, fd, ps, F.okX S len (hbody f), g, F.kp, b⟩
theorem Mn.me (D : Mn K C m qual st ps) (S : FnScope N ps (defScope st)) (len : ∀ vs H Q E, sp vs H Q E → vs.length = ps.length)
    (hbody : ∀ (f : Addr) (cdv : Value) (A : Around) (outer : List Env) (s : Shared) (H : Hp) (vs : List V) (Q : VK) (E : XK), Room k (A.deeper (envOfC qual (defScope st) s.heap.objs.size f cdv)) → sp vs H Q E →
      ∃ t, PSs (cxOf CX0 P w K mg base N qual (defScope st) f cdv A outer s H E).nox (defBody st) t ∧ t { nx := fun _ H' => Q .non H', rt := Q } (start N vs) H) : Me P w K mg base CX0 (k + 1) C m sp := by
  obtain ⟨f, fd, F, g, b⟩ := D.ex
  exact ⟨f, fd, ps, g, F.ok S len (hbody f), b⟩
theorem Mn.mx (D : Mn K C m qual st ps) (S : FnScope N ps (defScope st)) (len : ∀ vs H Q E, sp vs H Q E → vs.length = ps.length)
    (hbody : ∀ (f : Addr) (cdv : Value) (A : Around) (outer : List Env) (s : Shared) (H : Hp) (vs : List V) (Q : VK) (E : XK), Room k (A.deeper (envOfC qual (defScope st) s.heap.objs.size f cdv)) → sp vs H Q E →
      ∃ t, PSs (cxOf (L2.CX P w) P w K mg base N qual (defScope st) f cdv A outer s H E) (defBody st) t ∧ t { nx := fun _ H' => Q .non H', rt := Q } (start N vs) H) : Me P w K mg base (L2.CX P w) (k + 1) C m sp := by
  obtain ⟨f, fd, F, g, b⟩ := D.ex
  exact ⟨f, fd, ps, g, F.okX S len (hbody f), b⟩
theorem In.ma (D : In K mg x C qual st ps) (S : FnScope N ps (defScope st)) (len : ∀ vs H Q E, sp vs H Q E → vs.length = ps.length)
    (hbody : ∀ (f : Addr) (cdv : Value) (A : Around) (outer : List Env) (s : Shared) (H : Hp) (vs : List V) (Q : VK) (E : XK), Room k (A.deeper (envOfC qual (defScope st) s.heap.objs.size f cdv)) → sp vs H Q E →
      ∃ t, PSs (cxOf CX0 P w K mg base N qual (defScope st) f cdv A outer s H E).nox (defBody st) t ∧ t { nx := fun _ H' => Q .non H', rt := Q } (start N vs) H) : Ma P w K mg base (k + 1) x C sp := by
  obtain ⟨f, fd, F, M, g, b⟩ := D.ex
  exact ⟨f, fd, ps, M, F.ok S len (hbody f), g, b⟩
end
section
variable {X : Cx} {k j : Nat} {C : Addr} {x m : Str} {sp : Sp} {E : XK} {p pos apos : Pos} {e o : Expr} {es : List Expr} {ta : TE} {t : TA}
/-- f(e, ..) of a def that raises nothing -/
theorem pe_ca (c : Ca X.prog X.w X.K X.mg X.base CX0 k x sp) (hr : Room j X.A) (ha : PA X (e :: es) t) (hk : k ≤ j := by decide) (hg : Gl X x := by rfl)
    (hdb : (x == ("__debug__" : Str)) = false := by decide) (he : starEach (e :: es) X.env = (false, eval e X.env) :: starEach es X.env := by rfl) (hpl : (backTo pos (starEach es X.env)).any (·.1) = false := by rfl) :
    PE X (.Call (.Name x p) (e :: es) [] pos) (tCall sp [] E0 t) := by
  obtain ⟨f, fd, ps, F, hm, kp, b⟩ := c.ex
  exact pe_call F (hr.mono hk) hg hm kp b .nil pass0 ha hdb he hpl
/-- f(e, ..) of a def that may raise -/
theorem pe_cx (c : Ca X.prog X.w X.K X.mg X.base (L2.CX X.prog X.w) k x sp) (hr : Room j X.A) (hx : Passes (L2.CX X.prog X.w) X E) (ha : PA X (e :: es) t) (hk : k ≤ j := by decide) (hg : Gl X x := by rfl)
    (hdb : (x == ("__debug__" : Str)) = false := by decide) (he : starEach (e :: es) X.env = (false, eval e X.env) :: starEach es X.env := by rfl) (hpl : (backTo pos (starEach es X.env)).any (·.1) = false := by rfl) :
    PE X (.Call (.Name x p) (e :: es) [] pos) (tCall sp [] E t) := by
  obtain ⟨f, fd, ps, F, hm, kp, b⟩ := c.ex
  exact pe_call F (hr.mono hk) hg hm kp b .nil hx ha hdb he hpl
/-- the same where what is raised is wished for at the caller's slots (in a try) -/
theorem pe_cs {ES : L2.St → XK} (c : Ca X.prog X.w X.K X.mg X.base (L2.CX X.prog X.w) k x sp) (hr : Room j X.A) (hx : ∀ σ, PassesAt (L2.CX X.prog X.w) X σ (ES σ)) (ha : PA X (e :: es) t) (hk : k ≤ j := by decide) (hg : Gl X x := by rfl)
    (hdb : (x == ("__debug__" : Str)) = false := by decide) (he : starEach (e :: es) X.env = (false, eval e X.env) :: starEach es X.env := by rfl) (hpl : (backTo pos (starEach es X.env)).any (·.1) = false := by rfl) :
    PE X (.Call (.Name x p) (e :: es) [] pos) (tCallS sp ES t) := by
  obtain ⟨f, fd, ps, F, hm, kp, b⟩ := c.ex
  exact pe_callS F (hr.mono hk) hg hm kp b hx ha hdb he hpl
/-- C(e, ..) -/
theorem pe_ma (c : Ma X.prog X.w X.K X.mg X.base k x C sp) (hr : Room j X.A) (ha : PA X (e :: es) t) (hk : k + 1 ≤ j := by decide) (hg : Gl X x := by rfl)
    (hdb : (x == ("__debug__" : Str)) = false := by decide) (he : starEach (e :: es) X.env = (false, eval e X.env) :: starEach es X.env := by rfl) (hpl : (backTo pos (starEach es X.env)).any (·.1) = false := by rfl) :
    PE X (.Call (.Name x p) (e :: es) [] pos) (tMake C sp [] E0 t) := by
  obtain ⟨f, fd, ps, M, F, hm, b⟩ := c.ex
  exact pe_make M F (hr.mono hk) hg hm b .nil pass0 ha hdb he hpl
theorem pe_ma0 (c : Ma X.prog X.w X.K X.mg X.base k x C sp) (hr : Room j X.A) (hk : k + 1 ≤ j := by decide) (hg : Gl X x := by rfl)
    (hdb : (x == ("__debug__" : Str)) = false := by decide) :
    PE X (.Call (.Name x p) [] [] pos) (tMake C sp [] E0 tNil) := by
  obtain ⟨f, fd, ps, M, F, hm, b⟩ := c.ex
  exact pe_make0 M F (hr.mono hk) hg hm b .nil pass0 hdb
/-- o.m(e, ..) -/
theorem pe_mx {CX : CXT} {pl : Sem Bool} (c : Me X.prog X.w X.K X.mg X.base CX k C m sp) (cl : Cls X.K C) (hr : Room j X.A) (hx : Passes CX X E) (he : PE X o ta) (ha : PA X (e :: es) t) (hk : k ≤ j := by decide)
    (hst : starEach (e :: es) X.env = (false, eval e X.env) :: starEach es X.env := by rfl) (hpl : (backTo pos (starEach es X.env)).any (·.1) = false := by rfl)
    (ht : eval (.Call (.Attribute o m apos) (e :: es) [] pos) X.env = (do
      let ov ← eval o X.env
      standAt apos.atName
      let (f, first) ← holding [ov] (getMethod ov m pl)
      callWith pos f first (backTo pos (starEach (e :: es) X.env)) (backToKw pos (keywordEach [] X.env))) := by rfl) :
    PE X (.Call (.Attribute o m apos) (e :: es) [] pos) (tMeth C m sp [] E ta t) := by
  obtain ⟨f, fd, ps, hm, F, b⟩ := c.ex
  exact pe_meth (pl := pl) he cl hm F (hr.mono hk) b .nil hx ha hst hpl ht
theorem pe_mx0 {CX : CXT} {pl : Sem Bool} (c : Me X.prog X.w X.K X.mg X.base CX k C m sp) (cl : Cls X.K C) (hr : Room j X.A) (hx : Passes CX X E) (he : PE X o ta) (hk : k ≤ j := by decide)
    (ht : eval (.Call (.Attribute o m apos) [] [] pos) X.env = (do
      let ov ← eval o X.env
      standAt apos.atName
      let (f, first) ← holding [ov] (getMethod ov m pl)
      callWith pos f first (backTo pos (starEach [] X.env)) (backToKw pos (keywordEach [] X.env))) := by rfl) :
    PE X (.Call (.Attribute o m apos) [] [] pos) (tMeth C m sp [] E ta tNil) := by
  obtain ⟨f, fd, ps, hm, F, b⟩ := c.ex
  exact pe_meth0 (pl := pl) he cl hm F (hr.mono hk) b .nil hx ht
end
/-! ### fields -/
theorem lk_hd {f : Str} {v : V} {r : List (Str × V)} : List.lookup f ((f, v) :: r) = some v := by simp [List.lookup]
theorem lk_tl {f g : Str} {v : V} {r : List (Str × V)} {o : Option V} (h : (f == g) = false) (q : List.lookup f r = o) : List.lookup f ((g, v) :: r) = o := by
  simp only [List.lookup, h]
  exact q
theorem lk_nil {f : Str} : List.lookup f ([] : List (Str × V)) = none := rfl
theorem putF_tl {f g : Str} {v u : V} {r : List (Str × V)} (h : (g == f) = false) : putF f v ((g, u) :: r) = (g, u) :: putF f v r := by
  show (if g = f then _ else _) = _
  rw [if_neg (by simpa using h)]
theorem putF_hd {f : Str} {v u : V} {r : List (Str × V)} : putF f v ((f, u) :: r) = (f, v) :: r := by
  show (if f = f then _ else _) = _
  rw [if_pos rfl]
/-! ### the same number of things, one by one -/
def All2 {α : Type} (R : Addr → α → Prop) (as : List Addr) (xs : List α) : Prop := as.length = xs.length ∧ ∀ (i : Nat) a x, as[i]? = some a → xs[i]? = some x → R a x
theorem All2.mono {α : Type} {R S : Addr → α → Prop} {as : List Addr} {xs : List α} (h : All2 R as xs) (f : ∀ a x, R a x → S a x) : All2 S as xs := ⟨h.1, fun i a x ha hx => f a x (h.2 i a x ha hx)⟩
theorem All2.nil {α : Type} {R : Addr → α → Prop} : All2 R [] ([] : List α) := ⟨rfl, fun i a x ha _ => by simp at ha⟩
theorem All2.snoc {α : Type} {R : Addr → α → Prop} {as : List Addr} {xs : List α} {a : Addr} {x : α} (h : All2 R as xs) (r : R a x) : All2 R (as ++ [a]) (xs ++ [x]) := by
  refine ⟨by rw [List.length_append, List.length_append, h.1] <;> rfl, fun i b y hb hy => ?_⟩
  by_cases hi : i < as.length
  · rw [List.getElem?_append_left hi] at hb
    rw [List.getElem?_append_left (by rw [← h.1]; exact hi)] at hy
    exact h.2 i b y hb hy
  · have hi' : as.length ≤ i := by omega
    rw [List.getElem?_append_right hi'] at hb
    rw [List.getElem?_append_right (by rw [← h.1]; exact hi'), ← h.1] at hy
    cases q : i - as.length with
    | zero =>
      rw [q] at hb hy
      simp at hb hy
      subst hb hy
      exact r
    | succ n =>
      rw [q] at hb
      simp at hb
theorem All2.get {α : Type} {R : Addr → α → Prop} {as : List Addr} {xs : List α} (h : All2 R as xs) {i : Nat} {x : α} (hx : xs[i]? = some x) : ∃ a, as[i]? = some a ∧ R a x := by
  have hi : i < as.length := by
    rw [h.1]
    exact (List.getElem?_eq_some_iff.mp hx).1
  exact ⟨as[i], List.getElem?_eq_getElem hi, h.2 i _ x (List.getElem?_eq_getElem hi) hx⟩
theorem All2.getA {α : Type} {R : Addr → α → Prop} {as : List Addr} {xs : List α} (h : All2 R as xs) {i : Nat} {a : Addr} (ha : as[i]? = some a) : ∃ x, xs[i]? = some x ∧ R a x := by
  have hi : i < xs.length := by
    rw [← h.1]
    exact (List.getElem?_eq_some_iff.mp ha).1
  exact ⟨xs[i], List.getElem?_eq_getElem hi, h.2 i a _ ha (List.getElem?_eq_getElem hi)⟩
theorem map_get {α β : Type} {f : α → β} {l : List α} {i : Nat} {y : β} (h : (l.map f)[i]? = some y) : ∃ x, l[i]? = some x ∧ y = f x := by
  rw [List.getElem?_map] at h
  cases e : l[i]? with
  | none => rw [e] at h; cases h
  | some x => rw [e] at h; exact ⟨x, rfl, (Option.some.inj h).symm⟩
theorem map_at {α β : Type} {f : α → β} {l : List α} {i : Nat} {x : α} (h : l[i]? = some x) : (l.map f)[i]? = some (f x) := by
  rw [List.getElem?_map, h] <;> rfl
/-! ### heaps -/
/-- a heap without the places of S -/
noncomputable def off (S : Addr → Prop) (H : Hp) : Hp := fun q => open Classical in if S q then none else H q
theorem off_same {S : Addr → Prop} {H : Hp} : Same (off S H) H := fun b o h => by
  unfold off at h
  by_cases e : S b
  · rw [if_pos e] at h; cases h
  · rw [if_neg e] at h; exact h
theorem off_of {S : Addr → Prop} {H : Hp} {q : Addr} (h : ¬ S q) : off S H q = H q := by
  unfold off
  rw [if_neg h]
theorem off_no {S : Addr → Prop} {H : Hp} {q : Addr} {o : HO} (h : off S H q = some o) : ¬ S q := fun e => by
  unfold off at h
  rw [if_pos e] at h
  cases h
/-- all but the places of S stay -/
def SameB (S : Addr → Prop) (H H' : Hp) : Prop := ∀ b o, ¬ S b → H b = some o → H' b = some o
theorem SameB.off {S : Addr → Prop} {H H' : Hp} (h : SameB S H H') : Same (off S H) (off S H') := fun b o e => by
  have n := off_no e
  rw [off_of n] at e ⊢
  exact h b o n e
theorem Same.b {S : Addr → Prop} {H H' : Hp} (h : Same H H') : SameB S H H' := fun b o _ e => h b o e
theorem SameB.trans {S : Addr → Prop} {H H1 H2 : Hp} (a : SameB S H H1) (b : SameB S H1 H2) : SameB S H H2 := fun c o n h => b c o n (a c o n h)
theorem SameB.mono {S S' : Addr → Prop} {H H' : Hp} (h : SameB S H H') (m : ∀ a, S a → S' a) : SameB S' H H' := fun b o n e => h b o (fun z => n (m b z)) e
theorem SameB.refl {S : Addr → Prop} {H : Hp} : SameB S H H := fun _ _ _ h => h
theorem off_mono {S S' : Addr → Prop} {H : Hp} (m : ∀ a, S a → S' a) : Same (off S' H) (off S H) := fun b o e => by
  have n := off_no e
  rw [off_of n] at e
  rw [off_of (fun z => n (m b z))]
  exact e
theorem same_new {H : Hp} {p : Addr} {o : HO} (hp : H p = none) : Same H (upd H p o) := fun b u e => by
  rw [upd_ne (ne_of_none e hp)]
  exact e
theorem sameB_upd {S : Addr → Prop} {H : Hp} {p : Addr} {o : HO} (hp : S p) : SameB S H (upd H p o) := fun b u n e => by
  rw [upd_ne (fun z => n (by rw [z]; exact hp))]
  exact e
/-- a new instance and what its maker leaves -/
theorem made_same {H H1 : Hp} {x dx C : Addr} (nx : H x = none) (nd : H dx = none) {fs : List (Str × V)} (e : H1 = upd (upd (upd H dx (.own x)) x (.ins C dx [])) x (.ins C dx fs)) : Same H H1 := fun b o h => by
  rw [e, upd_ne (ne_of_none h nx), upd_ne (ne_of_none h nx), upd_ne (ne_of_none h nd)]
  exact h
/-! ### numbers and bytes as values -/
abbrev iV : Int → V := V.int
def nV (n : Nat) : V := .int (n : Int)
def bV (c : UInt8) : V := .int (c.toNat : Int)
/-- the places of the program's classes -/
structure Ad where
  flt : Addr
  fltI : Addr
  tok : Addr
  mea : Addr
  itm : Addr
  lst : Addr
  rdr : Addr
  hol : Addr
  blk : Addr
  sig : Addr
  wds : Addr
  cnt : Addr
  dig : Addr
  lod : Addr
/-- what the signs' dict, the counts' dict give -/
def signAt (k : Int) : Option Str := if k = 44 then some "," else if k = 58 then some ":" else if k = 59 then some ";" else if k = 45 then some "-" else none
def countAt (k : Int) : Option Int := if k = 1 then some 0 else if k = 2 then some 2 else if k = 3 then some 0 else if k = 4 then some 0 else if k = 5 then some 1 else if k = 6 then some 1 else if k = 7 then some 2 else if k = 8 then some 1 else none
/-- what the top has written -/
structure Txt (K : PySem.W.Frag) (mg : Str → Option Value) (A : Ad) : Prop where
  flt : PySem.FltX.FltTxt K mg A.flt A.fltI
  cT : Cls K A.tok
  nTk : NoAttr K A.tok "kind"
  nTp : NoAttr K A.tok "place"
  nTs : NoAttr K A.tok "said"
  cM : Cls K A.mea
  nMn : NoAttr K A.mea "name"
  nMu : NoAttr K A.mea "up"
  cI : Cls K A.itm
  nIn : NoAttr K A.itm "name"
  nIr : NoAttr K A.itm "row"
  cL : Cls K A.lst
  nLm : NoAttr K A.lst "measures"
  nLi : NoAttr K A.lst "members"
  cR : Cls K A.rdr
  nRt : NoAttr K A.rdr "tokens"
  nRa : NoAttr K A.rdr "at"
  cH : Cls K A.hol
  nHh : NoAttr K A.hol "held"
  gMOST_BYTES : ∃ t, mg "MOST_BYTES" = some (.int 4096 t)
  gMOST_NAME_BYTES : ∃ t, mg "MOST_NAME_BYTES" = some (.int 16 t)
  gMOST_NUMBER : ∃ t, mg "MOST_NUMBER" = some (.int 1000000000 t)
  gLINE_END : ∃ t, mg "LINE_END" = some (.int 10 t)
  gREMARK_SIGN : ∃ t, mg "REMARK_SIGN" = some (.int 35 t)
  gMOST_MEASURES : ∃ t, mg "MOST_MEASURES" = some (.int 4 t)
  gMOST_ITEMS : ∃ t, mg "MOST_ITEMS" = some (.int 16 t)
  gMOST_VALUE : ∃ t, mg "MOST_VALUE" = some (.int 1000 t)
  gLOAD : ∃ t, mg "LOAD" = some (.int 0 t)
  gSHOWN : ∃ t, mg "SHOWN" = some (.int 1 t)
  gBEATS : ∃ t, mg "BEATS" = some (.int 2 t)
  gBEST : ∃ t, mg "BEST" = some (.int 3 t)
  gLAYERS : ∃ t, mg "LAYERS" = some (.int 4 t)
  gBEATERS : ∃ t, mg "BEATERS" = some (.int 5 t)
  gBEATEN : ∃ t, mg "BEATEN" = some (.int 6 t)
  gGAIN : ∃ t, mg "GAIN" = some (.int 7 t)
  gBLANKS : mg "BLANKS" = some (.ref A.blk)
  gSIGNS : mg "SIGNS" = some (.ref A.sig)
  gWORDS : mg "WORDS" = some (.ref A.wds)
  gARGUMENT_COUNTS : mg "ARGUMENT_COUNTS" = some (.ref A.cnt)
  gis_digit : mg "is_digit" = some (.ref A.dig)
  gis_letter_or_digit : mg "is_letter_or_digit" = some (.ref A.lod)
  ndl : A.dig ≠ A.lod
  blk : ∀ H : Hp, SqT K H A.blk [.int 32, .int 9, .int 10]
  wds : ∀ H : Hp, SqT K H A.wds [.str "measures", .str "up", .str "down", .str "item"]
  sig : ∃ f, KNum K A.sig f ∧ ∀ k, match signAt k with | none => f k = none | some z => ∃ u, f k = some u ∧ RelV (.str z) u
  cnt : ∃ f, KNum K A.cnt f ∧ ∀ k n, countAt k = some n → ∃ u, f k = some u ∧ RelV (.int n) u
  len : mg "len" = none
  ord : mg "ord" = none
  str : mg "str" = none
  list : mg "list" = none
  range : mg "range" = none
  max : mg "max" = none
  zip : mg "zip" = none
  enumerate : mg "enumerate" = none
/-- a written whole number under its name -/
theorem pe_gi {X : Cx} {x : Str} {n : Int} {pos : Pos} (hg : Gl X x) (h : ∃ t, X.mg x = some (.int n t)) (hd : (x == ("__debug__" : Str)) = false := by decide) : PE X (.Name x pos) (tC (.int n)) := by
  obtain ⟨t, h⟩ := h
  exact pe_glob hg h ⟨t, rfl⟩ hd
theorem pe_gr {X : Cx} {x : Str} {a : Addr} {pos : Pos} (hg : Gl X x) (h : X.mg x = some (.ref a)) (hd : (x == ("__debug__" : Str)) = false := by decide) : PE X (.Name x pos) (tC (.ref a)) :=
  pe_glob hg h rfl hd
end Ub
namespace Ub
open PySem PySem.Spec PyProof.Rows L2
/-! ### measures, items, lists of items as they stand -/
def MeasAt (A : Ad) (H : Hp) (a : Addr) (m : Vaskya.Measure) : Prop :=
  ∃ dx n, H a = some (.ins A.mea dx [("name", .ref n), ("up", .bl m.up)]) ∧ H n = some (.lst (m.name.map bV))
def ItemAt (A : Ad) (H : Hp) (a : Addr) (i : Vaskya.Item) : Prop :=
  ∃ dx n r, H a = some (.ins A.itm dx [("name", .ref n), ("row", .ref r)]) ∧ H n = some (.lst (i.name.map bV)) ∧ H r = some (.lst (i.vs.map V.int))
def MsAt (A : Ad) (H : Hp) (p : Addr) (ms : List Vaskya.Measure) : Prop := ∃ as : List Addr, H p = some (.lst (as.map V.ref)) ∧ All2 (MeasAt A H) as ms
def IsAt (A : Ad) (H : Hp) (p : Addr) (is : List Vaskya.Item) : Prop := ∃ as : List Addr, H p = some (.lst (as.map V.ref)) ∧ All2 (ItemAt A H) as is
/-- a list of items that is right -/
structure Good (s : Vaskya.Sheet) : Prop where
  ms1 : 1 ≤ s.ms.length
  ms4 : s.ms.length ≤ 4
  is16 : s.items.length ≤ 16
  wid : ∀ i ∈ s.items, i.vs.length = s.ms.length
  nmM : ∀ m ∈ s.ms, m.name.length ≤ 16
  nmI : ∀ i ∈ s.items, i.name.length ≤ 16
  val : ∀ i ∈ s.items, ∀ v ∈ i.vs, -1000 ≤ v ∧ v ≤ 1000
def SheetAt (A : Ad) (H : Hp) (l : Addr) (s : Vaskya.Sheet) : Prop :=
  ∃ dx m i, H l = some (.ins A.lst dx [("measures", .ref m), ("members", .ref i)]) ∧ MsAt A H m s.ms ∧ IsAt A H i s.items
theorem MeasAt.mono {A : Ad} {H H' : Hp} {a : Addr} {m : Vaskya.Measure} (s : Same H H') (h : MeasAt A H a m) : MeasAt A H' a m := by
  obtain ⟨dx, n, h1, h2⟩ := h
  exact ⟨dx, n, s _ _ h1, s _ _ h2⟩
theorem ItemAt.mono {A : Ad} {H H' : Hp} {a : Addr} {m : Vaskya.Item} (s : Same H H') (h : ItemAt A H a m) : ItemAt A H' a m := by
  obtain ⟨dx, n, r, h1, h2, h3⟩ := h
  exact ⟨dx, n, r, s _ _ h1, s _ _ h2, s _ _ h3⟩
theorem MsAt.mono {A : Ad} {H H' : Hp} {p : Addr} {ms : List Vaskya.Measure} (s : Same H H') (h : MsAt A H p ms) : MsAt A H' p ms := by
  obtain ⟨as, h1, h2⟩ := h
  exact ⟨as, s _ _ h1, h2.mono fun a x => MeasAt.mono s⟩
theorem IsAt.mono {A : Ad} {H H' : Hp} {p : Addr} {is : List Vaskya.Item} (s : Same H H') (h : IsAt A H p is) : IsAt A H' p is := by
  obtain ⟨as, h1, h2⟩ := h
  exact ⟨as, s _ _ h1, h2.mono fun a x => ItemAt.mono s⟩
theorem SheetAt.mono {A : Ad} {H H' : Hp} {l : Addr} {sh : Vaskya.Sheet} (s : Same H H') (h : SheetAt A H l sh) : SheetAt A H' l sh := by
  obtain ⟨dx, m, i, h1, h2, h3⟩ := h
  exact ⟨dx, m, i, s _ _ h1, h2.mono s, h3.mono s⟩
theorem lu_name {v u : V} {f : Str} : List.lookup ("name" : Str) [("name", v), (f, u)] = some v := lk_hd
theorem lu_up {v u : V} : List.lookup ("up" : Str) [("name", v), ("up", u)] = some u := lk_tl (by decide +kernel) lk_hd
theorem lu_row {v u : V} : List.lookup ("row" : Str) [("name", v), ("row", u)] = some u := lk_tl (by decide +kernel) lk_hd
theorem lu_measures {v u : V} : List.lookup ("measures" : Str) [("measures", v), ("members", u)] = some v := lk_hd
theorem lu_members {v u : V} : List.lookup ("members" : Str) [("measures", v), ("members", u)] = some u := lk_tl (by decide +kernel) lk_hd
theorem lu_nometh {v u : V} {m : Str} (h1 : (m == ("measures" : Str)) = false := by decide +kernel) (h2 : (m == ("members" : Str)) = false := by decide +kernel) : List.lookup m [("measures", v), ("members", u)] = none :=
  lk_tl h1 (lk_tl h2 lk_nil)
/-- a list's length is that of what it is mapped from -/
theorem len_le {α : Type} {f : α → V} {l : List α} {n : Nat} (h : l.length ≤ n) (hn : n ≤ 1000 := by decide) : (l.map f).length ≤ sizeLine := by
  rw [List.length_map]
  exact Nat.le_of_lt (small1000 (by omega))
theorem len_lt {α : Type} {f : α → V} {l : List α} {n : Nat} (h : l.length ≤ n) (hn : n ≤ 1000 := by decide) : (l.map f).length < sizeLine := by
  rw [List.length_map]
  exact small1000 (by omega)
end Ub
namespace Ub
open PySem PySem.Spec PyProof.Rows L2
section
variable {P : Program} {w : World} {K : PySem.W.Frag} {mg : Str → Option Value} {base : Heap} {A : Ad}
/-! ### lead, is_better -/
def leadZ (up : Bool) (v o : Int) : Int := if up = true then v - o else o - v
def spLead (A : Ad) : Sp := fun vs H Q _ => ∃ (a : Addr) (m : Vaskya.Measure) (v o : Int), vs = [.ref a, .int v, .int o] ∧ MeasAt A H a m ∧ Q (.int (leadZ m.up v o)) H
abbrev s_lead : Stmt := top 1
theorem sc_lead : FnScope ["measure", "value", "other"] ["measure", "value", "other"] (defScope s_lead) := ⟨rfl, rfl, rfl, by decide +kernel, rfl, by decide +kernel, by decide +kernel⟩
theorem c_lead (T : Txt K mg A) (D : Dn K mg "lead" s_lead ["measure", "value", "other"]) : Ca P w K mg base CX0 1 "lead" (spLead A) := by
  have sc := sc_lead
  refine D.ca sc (fun vs H Q E h => ?_) (fun f cdv Ar outer s H vs Q E hr h => ?_)
  · obtain ⟨a, m, v, o, rfl, _⟩ := h
    rfl
  · obtain ⟨a, m, v, o, rfl, ⟨dx, n, h1, h2⟩, q⟩ := h
    refine ⟨_, (pss_cons (ps_if (pt_val (pe_fld (pv 0) rfl)) (pss_one (ps_ret (pe_op op_sub (pv 1) (pv 2)))) pss_nil)
      (pss_one (ps_ret (pe_op op_sub (pv 2) (pv 1))))), ?_⟩
    refine ⟨_, rfl, a, _, dx, _, _, rfl, h1, T.cM, T.nMu, lu_up, _, rfl, ?_⟩
    unfold leadZ at q
    cases hu : m.up with
    | true =>
      rw [hu, if_pos rfl] at q
      exact iteT ⟨_, rfl, _, rfl, _, _, rfl, rfl, q⟩
    | false =>
      rw [hu, if_neg Bool.false_ne_true] at q
      exact iteF ⟨_, rfl, _, rfl, _, _, rfl, rfl, q⟩
def betZ (up : Bool) (v o : Int) : Bool := decide (0 < leadZ up v o)
def spIsBetter (A : Ad) : Sp := fun vs H Q _ => ∃ (a : Addr) (m : Vaskya.Measure) (v o : Int), vs = [.ref a, .int v, .int o] ∧ MeasAt A H a m ∧ Q (.bl (betZ m.up v o)) H
abbrev s_is_better : Stmt := top 2
theorem sc_is_better : FnScope ["measure", "value", "other"] ["measure", "value", "other"] (defScope s_is_better) := ⟨rfl, rfl, rfl, by decide +kernel, rfl, by decide +kernel, by decide +kernel⟩
theorem c_is_better (T : Txt K mg A) (c_lead : Ca P w K mg base CX0 1 "lead" (spLead A)) (D : Dn K mg "is_better" s_is_better ["measure", "value", "other"]) : Ca P w K mg base CX0 2 "is_better" (spIsBetter A) := by
  have sc := sc_is_better
  refine D.ca sc (fun vs H Q E h => ?_) (fun f cdv Ar outer s H vs Q E hr h => ?_)
  · obtain ⟨a, m, v, o, rfl, _⟩ := h
    rfl
  · obtain ⟨a, m, v, o, rfl, hm, q⟩ := h
    refine ⟨_, (pss_one (ps_ret (pe_cmpR op_gt (pe_ca c_lead hr (pa_cons (pv 0) (pa_cons (pv 1) (pa_cons (pv 2) pa_nil)))) pe_int (nomark _)))), ?_⟩
    exact ⟨_, rfl, _, rfl, _, rfl, a, m, v, o, rfl, hm, _, _, rfl, rfl, q⟩
/-! ### row_beats -/
/-- measure, the row's value, the other row's value -/
abbrev Tri := Vaskya.Measure × Int × Int
def worseT (t : Tri) : Bool := betZ t.1.up t.2.2 t.2.1
def betT (t : Tri) : Bool := betZ t.1.up t.2.1 t.2.2
def tris (ms : List Vaskya.Measure) (xs ys : List Int) : List Tri := ms.zip (xs.zip ys)
def rowB (ms : List Vaskya.Measure) (xs ys : List Int) : Bool := (tris ms xs ys).all (fun t => !worseT t) && (tris ms xs ys).any betT
theorem tris_get {ms : List Vaskya.Measure} {xs ys : List Int} {i : Nat} {m : Vaskya.Measure} {x y : Int} (hm : ms[i]? = some m) (hx : xs[i]? = some x) (hy : ys[i]? = some y) : (tris ms xs ys)[i]? = some (m, x, y) := by
  unfold tris
  rw [List.getElem?_zip_eq_some]
  exact ⟨hm, by rw [List.getElem?_zip_eq_some]; exact ⟨hx, hy⟩⟩
theorem tris_len {ms : List Vaskya.Measure} {xs ys : List Int} (h1 : xs.length = ms.length) (h2 : ys.length = ms.length) : (tris ms xs ys).length = ms.length := by
  unfold tris
  rw [List.length_zip, List.length_zip, h1, h2, Nat.min_self, Nat.min_self]
theorem take_snoc {α : Type} {l : List α} {i : Nat} {x : α} (h : l[i]? = some x) : l.take (i + 1) = l.take i ++ [x] := by
  rw [List.take_add_one, h]
  rfl
theorem all_false {α : Type} {p : α → Bool} {l : List α} {i : Nat} {x : α} (h : l[i]? = some x) (hp : p x = false) : l.all p = false := by
  cases q : l.all p with
  | false => rfl
  | true =>
    rw [List.all_eq_true] at q
    have := q x (List.mem_of_getElem? h)
    rw [hp] at this
    cases this
def spRowBeats (A : Ad) : Sp := fun vs H Q _ => ∃ (p r1 r2 : Addr) (ms : List Vaskya.Measure) (xs ys : List Int), vs = [.ref p, .ref r1, .ref r2] ∧ MsAt A H p ms ∧ H r1 = some (.lst (xs.map V.int)) ∧ H r2 = some (.lst (ys.map V.int)) ∧
  xs.length = ms.length ∧ ys.length = ms.length ∧ ∀ H', Same H H' → Q (.bl (rowB ms xs ys)) H'
abbrev s_row_beats : Stmt := top 3
theorem sc_row_beats : FnScope ["measures", "row", "other_row", "better_once", "measure", "value", "other"] ["measures", "row", "other_row"] (defScope s_row_beats) := ⟨rfl, rfl, rfl, by decide +kernel, rfl, by decide +kernel, by decide +kernel⟩
theorem c_row_beats (T : Txt K mg A) (c_is_better : Ca P w K mg base CX0 2 "is_better" (spIsBetter A)) (D : Dn K mg "row_beats" s_row_beats ["measures", "row", "other_row"]) : Ca P w K mg base CX0 3 "row_beats" (spRowBeats A) := by
  have sc := sc_row_beats
  refine D.ca sc (fun vs H Q E h => ?_) (fun f cdv Ar outer s H vs Q E hr h => ?_)
  · obtain ⟨p, r1, r2, ms, xs, ys, rfl, _⟩ := h
    rfl
  · obtain ⟨p, r1, r2, ms, xs, ys, rfl, ⟨as, hp, hA⟩, h1, h2, l1, l2, q⟩ := h
    refine ⟨_, (pss_cons (ps_set (i := 3) sc.nd rfl (Or.inl rfl) pe_bl)
      (pss_cons (ps_for PassesOwn.never rfl (pi_zip3 (by rfl) T.zip (pa_cons (pv 0) (pa_cons (pv 1) (pa_cons (pv 2) pa_nil)))) (pg_tup rfl (pgs_cons (pg_name (i := 4) sc.nd rfl (Or.inl rfl)) (pgs_cons (pg_name (i := 5) sc.nd rfl (Or.inl rfl)) (pgs_cons (pg_name (i := 6) sc.nd rfl (Or.inl rfl)) pgs_nil)))) (pss_cons (ps_if (pt_val (pe_ca c_is_better hr (pa_cons (pv 4) (pa_cons (pv 6) (pa_cons (pv 5) pa_nil))))) (pss_one (ps_ret pe_bl)) pss_nil)
      (pss_one (ps_if (pt_val (pe_ca c_is_better hr (pa_cons (pv 4) (pa_cons (pv 5) (pa_cons (pv 6) pa_nil))))) (pss_one (ps_set (i := 3) sc.nd rfl (Or.inl rfl) pe_bl)) pss_nil))))
      (pss_one (ps_ret (pv 3))))), ?_⟩
    have la : as.length = ms.length := hA.1
    refine ⟨.ref p, rfl, .ref r1, rfl, .ref r2, rfl, p, r1, r2, as.map V.ref, xs.map V.int, ys.map V.int, rfl, SqL.of hp, SqL.of h1, SqL.of h2, ?_⟩
    refine for_zip3 (K := K) (a := p) (b := r1) (c := r2) (xs := as.map V.ref) (ys := xs.map V.int) (zs := ys.map V.int) (by rw [List.length_map, List.length_map]; omega) (by rw [List.length_map, List.length_map]; omega)
      (fun i σ H' => ∃ v4 v5 v6, σ = [some (.ref p), some (.ref r1), some (.ref r2), some (.bl (((tris ms xs ys).take i).any betT)), v4, v5, v6] ∧ Same H H' ∧ ((tris ms xs ys).take i).all (fun t => !worseT t) = true)
      ⟨none, none, none, rfl, fun _ _ e => e, rfl⟩ (fun i σ H' ⟨_, _, _, _, sm, _⟩ => ⟨SqL.of (sm _ _ hp), SqL.of (sm _ _ h1), SqL.of (sm _ _ h2)⟩) ?_ ?_
    · rintro i x y z Tt σ H' hx hy hz ⟨v4, v5, v6, rfl, sm, hall⟩ nT
      obtain ⟨a, ha, rfl⟩ := map_get hx
      obtain ⟨u, hu, rfl⟩ := map_get hy
      obtain ⟨o, ho, rfl⟩ := map_get hz
      obtain ⟨m, hm, hma⟩ := hA.getA ha
      have sm' : Same H (upd H' Tt (.tup [V.ref a, V.int u, V.int o])) := fun b o e => same_new nT _ _ (sm _ _ e)
      have hg := tris_get hm hu ho
      have hM := MeasAt.mono sm' hma
      refine ⟨Tt, [V.ref a, V.int u, V.int o], rfl, SqT.of upd_same, rfl, _, _, rfl, _, _, rfl, _, _, rfl, rfl, ?_⟩
      refine ⟨_, rfl, _, rfl, _, rfl, a, m, o, u, rfl, hM, _, rfl, ?_⟩
      cases hw : betZ m.up o u with
      | true =>
        refine iteT ?_
        have e : rowB ms xs ys = false := by
          unfold rowB
          rw [all_false (p := fun t => !worseT t) hg (by show (!betZ m.up o u) = false; rw [hw] <;> rfl), Bool.false_and]
        have := q _ sm'
        rw [e] at this
        exact this
      | false =>
        refine iteF ?_
        refine ⟨_, rfl, _, rfl, _, rfl, a, m, u, o, rfl, hM, _, rfl, ?_⟩
        have hall' : ((tris ms xs ys).take (i + 1)).all (fun t => !worseT t) = true := by
          rw [take_snoc hg, List.all_append, hall]
          show (true && ((!betZ m.up o u) && true)) = true
          rw [hw] <;> rfl
        have hany : ((tris ms xs ys).take (i + 1)).any betT = (((tris ms xs ys).take i).any betT || betZ m.up u o) := by
          rw [take_snoc hg, List.any_append]
          show (_ || (betZ m.up u o || false)) = _
          rw [Bool.or_false]
        cases hb : betZ m.up u o with
        | true =>
          refine iteT ?_
          refine ⟨some (.ref a), some (.int u), some (.int o), ?_, sm', hall'⟩
          rw [hany, hb, Bool.or_true]
          rfl
        | false =>
          refine iteF ?_
          refine ⟨some (.ref a), some (.int u), some (.int o), ?_, sm', hall'⟩
          rw [hany, hb, Bool.or_false]
          rfl
    · rintro σ H' ⟨v4, v5, v6, rfl, sm, hall⟩
      have hl : (as.map V.ref).length = (tris ms xs ys).length := by rw [List.length_map, tris_len l1 l2, la]
      rw [hl, List.take_length] at hall ⊢
      refine ⟨_, rfl, ?_⟩
      have := q _ sm
      unfold rowB at this
      rw [hall, Bool.true_and] at this
      exact this
/-! ### beats, are_same -/
/-- the values of the i-th item -/
def valsOf (s : Vaskya.Sheet) (i : Nat) : List Int := (s.items[i]?.map (·.vs)).getD []
theorem valsOf_at {s : Vaskya.Sheet} {i : Nat} {it : Vaskya.Item} (h : s.items[i]? = some it) : valsOf s i = it.vs := by
  unfold valsOf
  rw [h]
  rfl
def beatN (s : Vaskya.Sheet) (i j : Nat) : Bool := rowB s.ms (valsOf s i) (valsOf s j)
def spBeats (A : Ad) : Sp := fun vs H Q _ => ∃ (l : Addr) (s : Vaskya.Sheet) (i j : Nat), vs = [.ref l, nV i, nV j] ∧ SheetAt A H l s ∧ Good s ∧ i < s.items.length ∧ j < s.items.length ∧ ∀ H', Same H H' → Q (.bl (beatN s i j)) H'
abbrev s_beats : Stmt := top 4
theorem sc_beats : FnScope ["listing", "number", "other"] ["listing", "number", "other"] (defScope s_beats) := ⟨rfl, rfl, rfl, by decide +kernel, rfl, by decide +kernel, by decide +kernel⟩
theorem c_beats (T : Txt K mg A) (c_row_beats : Ca P w K mg base CX0 3 "row_beats" (spRowBeats A)) (D : Dn K mg "beats" s_beats ["listing", "number", "other"]) : Ca P w K mg base CX0 4 "beats" (spBeats A) := by
  have sc := sc_beats
  refine D.ca sc (fun vs H Q E h => ?_) (fun f cdv Ar outer s H vs Q E hr h => ?_)
  · obtain ⟨l, s, i, j, rfl, _⟩ := h
    rfl
  · obtain ⟨l, sh, i, j, rfl, ⟨dx, m, it, hl, hM, as, hI, hA⟩, g, hi, hj, q⟩ := h
    refine ⟨_, (pss_one (ps_ret (pe_ca c_row_beats hr (pa_cons (pe_fld (pv 0) rfl) (pa_cons (pe_fld (pe_ix ix_list (pe_fld (pv 0) rfl) (pv 1) (fun _ _ => rfl)) rfl) (pa_cons (pe_fld (pe_ix ix_list (pe_fld (pv 0) rfl) (pv 2) (fun _ _ => rfl)) rfl) pa_nil)))))), ?_⟩
    obtain ⟨ai, hai, dxi, ni, ri, a1, a2, a3⟩ := hA.get (List.getElem?_eq_getElem hi)
    obtain ⟨aj, haj, dxj, nj, rj, b1, b2, b3⟩ := hA.get (List.getElem?_eq_getElem hj)
    refine ⟨_, rfl, l, _, dx, _, _, rfl, hl, T.cL, T.nLm, lu_measures, ?_⟩
    refine ⟨_, rfl, l, _, dx, _, _, rfl, hl, T.cL, T.nLi, lu_members, _, rfl, it, _, _, _, rfl, rfl, SqL.of hI, atI_nat (map_at hai), ai, _, dxi, _, _, rfl, a1, T.cI, T.nIr, lu_row, ?_⟩
    refine ⟨_, rfl, l, _, dx, _, _, rfl, hl, T.cL, T.nLi, lu_members, _, rfl, it, _, _, _, rfl, rfl, SqL.of hI, atI_nat (map_at haj), aj, _, dxj, _, _, rfl, b1, T.cI, T.nIr, lu_row, ?_⟩
    refine ⟨m, ri, rj, sh.ms, _, _, rfl, hM, a3, b3, g.wid _ (List.getElem_mem hi), g.wid _ (List.getElem_mem hj), fun H' sm => ?_⟩
    have := q H' sm
    unfold beatN at this
    rw [valsOf_at (List.getElem?_eq_getElem hi), valsOf_at (List.getElem?_eq_getElem hj)] at this
    exact this
end
end Ub
/-! Plain mathematics of who beats whom: no Python here. -/
namespace Ub
/-- those of a list that none of it beats -/
def unbG (bt : Nat → Nat → Bool) (is : List Nat) : List Nat := is.filter fun i => !is.any fun j => bt j i
def layG (bt : Nat → Nat → Bool) : Nat → List Nat → List (List Nat)
  | 0, _ => []
  | n + 1, is => if is.isEmpty = true then [] else unbG bt is :: layG bt n (is.filter fun i => !(unbG bt is).contains i)
/-- beating goes upwards by a rank -/
def Ranked (bt : Nat → Nat → Bool) (N : Nat) : Prop := ∃ r : Nat → Int, ∀ i j, i < N → j < N → bt i j = true → r j < r i
theorem max_of (r : Nat → Int) : ∀ l : List Nat, l ≠ [] → ∃ m ∈ l, ∀ j ∈ l, r j ≤ r m
  | [], h => absurd rfl h
  | [x], _ => ⟨x, List.mem_singleton.mpr rfl, fun j hj => by rw [List.mem_singleton.mp hj] <;> exact Int.le_refl _⟩
  | x :: y :: l, _ => by
    obtain ⟨m, hm, hj⟩ := max_of r (y :: l) (by simp)
    by_cases h : r m ≤ r x
    · refine ⟨x, List.mem_cons_self, fun j hj' => ?_⟩
      rcases List.mem_cons.mp hj' with e | e
      · rw [e]; exact Int.le_refl _
      · exact Int.le_trans (hj j e) h
    · refine ⟨m, List.mem_cons_of_mem _ hm, fun j hj' => ?_⟩
      rcases List.mem_cons.mp hj' with e | e
      · rw [e]; omega
      · exact hj j e
theorem unbG_some {bt : Nat → Nat → Bool} {N : Nat} (R : Ranked bt N) {is : List Nat} (hN : ∀ i ∈ is, i < N) (h : is ≠ []) : ∃ m, m ∈ unbG bt is := by
  obtain ⟨r, hr⟩ := R
  obtain ⟨m, hm, hj⟩ := max_of r is h
  refine ⟨m, List.mem_filter.mpr ⟨hm, ?_⟩⟩
  rw [Bool.not_eq_true', List.any_eq_false]
  intro j hjm e
  have := hr j m (hN j hjm) (hN m hm) e
  have := hj j hjm
  omega
theorem left_less {bt : Nat → Nat → Bool} {N : Nat} (R : Ranked bt N) {is : List Nat} (hN : ∀ i ∈ is, i < N) (h : is ≠ []) :
    (is.filter fun i => !(unbG bt is).contains i).length < is.length := by
  obtain ⟨m, hm⟩ := unbG_some R hN h
  have h1 : (is.filter fun i => !(unbG bt is).contains i).length ≤ is.length := List.length_filter_le _ _
  have h2 : (is.filter fun i => !(unbG bt is).contains i).length ≠ is.length := fun e => by
    have h3 := List.filter_sublist (p := fun i => !(unbG bt is).contains i) (l := is)
    have h4 := h3.eq_of_length e
    have h5 : m ∈ is.filter fun i => !(unbG bt is).contains i := by
      rw [h4]
      exact (List.mem_filter.mp hm).1
    have h6 := (List.mem_filter.mp h5).2
    rw [Bool.not_eq_true'] at h6
    have h7 : (unbG bt is).contains m = true := List.elem_eq_true_of_mem hm
    rw [h6] at h7
    cases h7
  omega
theorem left_sub {bt : Nat → Nat → Bool} {N : Nat} {is : List Nat} (hN : ∀ i ∈ is, i < N) : ∀ i ∈ (is.filter fun i => !(unbG bt is).contains i), i < N := fun i h => hN i (List.mem_filter.mp h).1
/-- enough turns are enough -/
theorem layG_fuel {bt : Nat → Nat → Bool} {N : Nat} (R : Ranked bt N) : ∀ (n : Nat) (is : List Nat), (∀ i ∈ is, i < N) → is.length ≤ n → layG bt n is = layG bt is.length is
  | 0, is, hN, h => by
    have e : is = [] := List.length_eq_zero_iff.mp (by omega)
    subst e
    rfl
  | n + 1, [], hN, h => rfl
  | n + 1, x :: r, hN, h => by
    have hl := left_less R hN (by simp)
    have hs := left_sub (bt := bt) hN
    show (if (x :: r).isEmpty = true then [] else unbG bt (x :: r) :: layG bt n _) = (if (x :: r).isEmpty = true then [] else unbG bt (x :: r) :: layG bt r.length _)
    rw [layG_fuel R n _ hs (by rw [List.length_cons] at h hl; omega), layG_fuel R r.length _ hs (by rw [List.length_cons] at hl; omega)]
/-- one turn -/
theorem layG_step {bt : Nat → Nat → Bool} {N : Nat} (R : Ranked bt N) {is : List Nat} (hN : ∀ i ∈ is, i < N) (h : is ≠ []) :
    layG bt is.length is = unbG bt is :: layG bt (is.filter fun i => !(unbG bt is).contains i).length (is.filter fun i => !(unbG bt is).contains i) := by
  cases is with
  | nil => exact absurd rfl h
  | cons x r =>
    have hl := left_less R hN h
    show (if (x :: r).isEmpty = true then [] else unbG bt (x :: r) :: layG bt r.length _) = _
    rw [if_neg (by simp), layG_fuel R r.length _ (left_sub hN) (by rw [List.length_cons] at hl; omega)]
/-- each one is in a layer -/
theorem layG_mem {bt : Nat → Nat → Bool} {N : Nat} (R : Ranked bt N) : ∀ (n : Nat) (is : List Nat), (∀ i ∈ is, i < N) → is.length ≤ n → ∀ i ∈ is, ∃ u ∈ layG bt n is, i ∈ u
  | 0, is, hN, h, i, hi => by
    have e : is = [] := List.length_eq_zero_iff.mp (by omega)
    subst e
    cases hi
  | n + 1, [], hN, h, i, hi => nomatch hi
  | n + 1, x :: r, hN, h, i, hi => by
    have hl := left_less R hN (by simp)
    have hs := left_sub (bt := bt) hN
    show ∃ u ∈ (if (x :: r).isEmpty = true then [] else unbG bt (x :: r) :: layG bt n _), i ∈ u
    rw [if_neg (by simp)]
    by_cases hu : i ∈ unbG bt (x :: r)
    · exact ⟨_, List.mem_cons_self, hu⟩
    · have hf : i ∈ ((x :: r).filter fun i => !(unbG bt (x :: r)).contains i) := List.mem_filter.mpr ⟨hi, by
        rw [Bool.not_eq_true']
        cases q : (unbG bt (x :: r)).contains i with
        | false => rfl
        | true => exact absurd (List.mem_of_elem_eq_true q) hu⟩
      obtain ⟨u, h1, h2⟩ := layG_mem R n _ hs (by rw [List.length_cons] at h hl; omega) i hf
      exact ⟨u, List.mem_cons_of_mem _ h1, h2⟩
/-! ### the specification's words -/
theorem unb_spec (l : List (List Int)) (is : List Nat) : Vaskya.unbeatenIn l is = unbG (fun j i => Vaskya.beats (l.getD j []) (l.getD i [])) is := rfl
theorem lay_spec (l : List (List Int)) : ∀ (n : Nat) (is : List Nat), Vaskya.layersBy l n is = layG (fun j i => Vaskya.beats (l.getD j []) (l.getD i [])) n is
  | 0, _ => rfl
  | n + 1, is => by
    show (if is.isEmpty = true then [] else Vaskya.unbeatenIn l is :: Vaskya.layersBy l n _) = (if is.isEmpty = true then [] else _ :: layG _ n _)
    rw [lay_spec l n, unb_spec]
theorem unbG_congr {b b' : Nat → Nat → Bool} {is : List Nat} (h : ∀ i ∈ is, ∀ j ∈ is, b i j = b' i j) : unbG b is = unbG b' is := by
  unfold unbG
  refine List.filter_congr fun i hi => ?_
  congr 1
  rw [Bool.eq_iff_iff, List.any_eq_true, List.any_eq_true]
  exact ⟨fun ⟨j, hj, e⟩ => ⟨j, hj, by rw [← h j hj i hi]; exact e⟩, fun ⟨j, hj, e⟩ => ⟨j, hj, by rw [h j hj i hi]; exact e⟩⟩
theorem layG_congr {b b' : Nat → Nat → Bool} : ∀ (n : Nat) (is : List Nat), (∀ i ∈ is, ∀ j ∈ is, b i j = b' i j) → layG b n is = layG b' n is
  | 0, _, _ => rfl
  | n + 1, is, h => by
    show (if is.isEmpty = true then [] else unbG b is :: layG b n _) = (if is.isEmpty = true then [] else unbG b' is :: layG b' n _)
    rw [unbG_congr h, layG_congr n _ fun i hi j hj => h i (List.mem_filter.mp hi).1 j (List.mem_filter.mp hj).1]
/-! ### ranks: the sum of a row -/
theorem atLeast_sum : ∀ (a b : List Int), a.length = b.length → Vaskya.atLeast a b = true → b.sum ≤ a.sum ∧ (a ≠ b → b.sum < a.sum)
  | [], [], _, _ => ⟨Int.le_refl _, fun h => absurd rfl h⟩
  | [], _ :: _, h, _ => by cases h
  | _ :: _, [], h, _ => by cases h
  | x :: a, y :: b, h, e => by
    have e' : (decide (y ≤ x) && Vaskya.atLeast a b) = true := e
    rw [Bool.and_eq_true] at e'
    have h1 : y ≤ x := of_decide_eq_true e'.1
    obtain ⟨i1, i2⟩ := atLeast_sum a b (by simpa using h) e'.2
    rw [List.sum_cons, List.sum_cons]
    refine ⟨by omega, fun ne => ?_⟩
    by_cases q : a = b
    · subst q
      have : x ≠ y := fun z => ne (by rw [z])
      omega
    · have := i2 q
      omega
theorem beats_sum {a b : List Int} (h : a.length = b.length) (e : Vaskya.beats a b = true) : b.sum < a.sum := by
  unfold Vaskya.beats at e
  rw [Bool.and_eq_true] at e
  exact (atLeast_sum a b h e.1).2 (by simpa using e.2)
end Ub
namespace Ub
open PySem PySem.Spec PyProof.Rows L2
/-- beaten by none: bt j i: j beats i -/
abbrev btN (s : Vaskya.Sheet) : Nat → Nat → Bool := beatN s
theorem filter_snoc {α : Type} {p : α → Bool} {l : List α} {i : Nat} {x : α} (h : l[i]? = some x) : (l.take (i + 1)).filter p = (l.take i).filter p ++ (if p x = true then [x] else []) := by
  rw [take_snoc h, List.filter_append]
  congr 1
  cases q : p x <;> simp [q]
theorem new_ne {H : Hp} {p q : Addr} {o : HO} (h : H p = some o) (hq : H q = none) : p ≠ q := ne_of_none h hq
theorem same_put {H H' : Hp} {D : Addr} {o : HO} (s : Same H H') (n : H D = none) : Same H (upd H' D o) := fun b u e => by
  rw [upd_ne (ne_of_none e n)]
  exact s b u e
section
variable {P : Program} {w : World} {K : PySem.W.Frag} {mg : Str → Option Value} {base : Heap} {A : Ad}
/-! ### are_same -/
theorem dp_ints {K : PySem.W.Frag} {H : Hp} {p : Addr} {ns : List Int} (h : H p = some (.lst (ns.map V.int))) : Dp K H (.ref p) (.list (ns.map PyData.int)) := by
  refine .lst (SqL.of h) ?_
  clear h
  induction ns with
  | nil => exact .nil
  | cons x r ih => exact .cons (.int x) ih
theorem lay_ints (ns : List Int) : PyData.canLayAll0 (ns.map PyData.int) = true := by
  induction ns with
  | nil => simp only [List.map_nil, PyData.canLayAll0]
  | cons x r ih => simp only [List.map_cons, PyData.canLayAll0, PyData.canLay0, ih, Bool.and_self]
theorem dep_ints (ns : List Int) : PyData.depthAll (ns.map PyData.int) = 0 := by
  induction ns with
  | nil => simp only [List.map_nil, PyData.depthAll]
  | cons x r ih => simp only [List.map_cons, PyData.depthAll, PyData.depth, ih, Nat.max_self]
theorem shaped_ints (ns : List Int) : SeqAt.shaped (.list (ns.map PyData.int)) = true := by
  unfold SeqAt.shaped
  simp only [PyData.canLay0, PyData.depth, lay_ints, dep_ints]
  decide
theorem eqvAll_ints : ∀ (a b : List Int), PyData.eqvAll (a.map PyData.int) (b.map PyData.int) = decide (a = b)
  | [], [] => by simp [PyData.eqvAll]
  | [], _ :: _ => by simp [PyData.eqvAll]
  | _ :: _, [] => by simp [PyData.eqvAll]
  | x :: a, y :: b => by
    simp only [List.map_cons, PyData.eqvAll, PyData.eqv, eqvAll_ints a b, List.cons.injEq]
    by_cases h : x = y <;> by_cases h2 : a = b <;> simp [h, h2]
theorem eqv_ints (a b : List Int) : PyData.eqv (.list (a.map PyData.int)) (.list (b.map PyData.int)) = decide (a = b) := by
  simp only [PyData.eqv, eqvAll_ints]
def spAreSame (A : Ad) : Sp := fun vs H Q _ => ∃ (l : Addr) (s : Vaskya.Sheet) (i j : Nat), vs = [.ref l, nV i, nV j] ∧ SheetAt A H l s ∧ i < s.items.length ∧ j < s.items.length ∧ Q (.bl (decide (valsOf s i = valsOf s j))) H
abbrev s_are_same : Stmt := top 5
theorem sc_are_same : FnScope ["listing", "number", "other"] ["listing", "number", "other"] (defScope s_are_same) := ⟨rfl, rfl, rfl, by decide +kernel, rfl, by decide +kernel, by decide +kernel⟩
theorem c_are_same (T : Txt K mg A) (D : Dn K mg "are_same" s_are_same ["listing", "number", "other"]) : Ca P w K mg base CX0 1 "are_same" (spAreSame A) := by
  have sc := sc_are_same
  refine D.ca sc (fun vs H Q E h => ?_) (fun f cdv Ar outer s H vs Q E hr h => ?_)
  · obtain ⟨l, s, i, j, rfl, _⟩ := h
    rfl
  · obtain ⟨l, sh, i, j, rfl, ⟨dx, m, it, hl, hM, as, hI, hA⟩, hi, hj, q⟩ := h
    refine ⟨_, (pss_one (ps_ret (pe_cmpR (op_eqD hr.units) (pe_fld (pe_ix ix_list (pe_fld (pv 0) rfl) (pv 1) (fun _ _ => rfl)) rfl) (pe_fld (pe_ix ix_list (pe_fld (pv 0) rfl) (pv 2) (fun _ _ => rfl)) rfl) (nomark _)))), ?_⟩
    obtain ⟨ai, hai, dxi, ni, ri, a1, a2, a3⟩ := hA.get (List.getElem?_eq_getElem hi)
    obtain ⟨aj, haj, dxj, nj, rj, b1, b2, b3⟩ := hA.get (List.getElem?_eq_getElem hj)
    refine ⟨_, rfl, l, _, dx, _, _, rfl, hl, T.cL, T.nLi, lu_members, _, rfl, it, _, _, _, rfl, rfl, SqL.of hI, atI_nat (map_at hai), ai, _, dxi, _, _, rfl, a1, T.cI, T.nIr, lu_row, ?_⟩
    refine ⟨_, rfl, l, _, dx, _, _, rfl, hl, T.cL, T.nLi, lu_members, _, rfl, it, _, _, _, rfl, rfl, SqL.of hI, atI_nat (map_at haj), aj, _, dxj, _, _, rfl, b1, T.cI, T.nIr, lu_row, ?_⟩
    refine ⟨_, _, dp_ints a3, dp_ints b3, shaped_ints _, shaped_ints _, ?_⟩
    rw [eqv_ints, ← valsOf_at (List.getElem?_eq_getElem hi), ← valsOf_at (List.getElem?_eq_getElem hj)]
    exact q
/-! ### is_unbeaten, unbeaten_among -/
def spIsUnbeaten (A : Ad) : Sp := fun vs H Q _ => ∃ (l p : Addr) (s : Vaskya.Sheet) (i : Nat) (ns : List Nat), vs = [.ref l, nV i, .ref p] ∧ SheetAt A H l s ∧ Good s ∧ i < s.items.length ∧ H p = some (.lst (ns.map nV)) ∧ (∀ n ∈ ns, n < s.items.length) ∧
  ∀ H', Same H H' → Q (.bl (!ns.any fun j => beatN s j i)) H'
abbrev s_is_unbeaten : Stmt := top 6
theorem sc_is_unbeaten : FnScope ["listing", "number", "among", "other"] ["listing", "number", "among"] (defScope s_is_unbeaten) := ⟨rfl, rfl, rfl, by decide +kernel, rfl, by decide +kernel, by decide +kernel⟩
theorem c_is_unbeaten (T : Txt K mg A) (c_beats : Ca P w K mg base CX0 4 "beats" (spBeats A)) (D : Dn K mg "is_unbeaten" s_is_unbeaten ["listing", "number", "among"]) : Ca P w K mg base CX0 5 "is_unbeaten" (spIsUnbeaten A) := by
  have sc := sc_is_unbeaten
  refine D.ca sc (fun vs H Q E h => ?_) (fun f cdv Ar outer s H vs Q E hr h => ?_)
  · obtain ⟨l, p, s, i, ns, rfl, _⟩ := h
    rfl
  · obtain ⟨l, p, sh, i, ns, rfl, hS, g, hi, hp, hn, q⟩ := h
    refine ⟨_, (pss_cons (ps_for PassesOwn.never rfl (pi_list (pv 2)) (pg_name (i := 3) sc.nd rfl (Or.inl rfl)) (pss_one (ps_if (pt_val (pe_ca c_beats hr (pa_cons (pv 0) (pa_cons (pv 3) (pa_cons (pv 1) pa_nil))))) (pss_one (ps_ret pe_bl)) pss_nil)))
      (pss_one (ps_ret pe_bl))), ?_⟩
    refine ⟨_, rfl, p, rfl, ⟨_, SqL.of hp⟩, for_list (K := K) (a := p) (xs := ns.map nV) (fun k σ H' => ∃ v, σ = [some (.ref l), some (nV i), some (.ref p), v] ∧ Same H H' ∧ ((ns.take k).any fun j => beatN sh j i) = false)
      ⟨none, rfl, fun _ _ e => e, rfl⟩ (fun k σ H' _ ⟨_, _, sm, _⟩ => SqL.of (sm _ _ hp)) ?_ ?_⟩
    · rintro k y σ H' hy ⟨v, rfl, sm, hk⟩
      obtain ⟨j, hj, rfl⟩ := map_get hy
      refine ⟨_, rfl, _, rfl, _, rfl, l, sh, j, i, rfl, hS.mono sm, g, hn j (List.mem_of_getElem? hj), hi, fun H2 sm2 => ⟨_, rfl, ?_⟩⟩
      have sm3 : Same H H2 := fun b o e => sm2 _ _ (sm _ _ e)
      cases hb : beatN sh j i with
      | true =>
        refine iteT ?_
        have := q H2 sm3
        rw [show (ns.any fun j => beatN sh j i) = true from List.any_eq_true.mpr ⟨j, List.mem_of_getElem? hj, hb⟩] at this
        exact this
      | false =>
        refine iteF ⟨_, rfl, sm3, ?_⟩
        rw [take_snoc hj, List.any_append, hk]
        show (false || (beatN sh j i || false)) = false
        rw [hb] <;> rfl
    · rintro σ H' ⟨v, rfl, sm, hk⟩
      rw [List.length_map, List.take_length] at hk
      have := q H' sm
      rw [hk] at this
      exact this
def spUnbAmong (A : Ad) : Sp := fun vs H Q _ => ∃ (l p : Addr) (s : Vaskya.Sheet) (ns : List Nat), vs = [.ref l, .ref p] ∧ SheetAt A H l s ∧ Good s ∧ H p = some (.lst (ns.map nV)) ∧ (∀ n ∈ ns, n < s.items.length) ∧ ns.length ≤ 16 ∧
  ∀ H' D, Same H H' → H D = none → H' D = some (.lst ((unbG (beatN s) ns).map nV)) → Q (.ref D) H'
abbrev s_unbeaten_among : Stmt := top 7
theorem sc_unbeaten_among : FnScope ["listing", "among", "number"] ["listing", "among"] (defScope s_unbeaten_among) := ⟨rfl, rfl, rfl, by decide +kernel, rfl, by decide +kernel, by decide +kernel⟩
theorem c_unbeaten_among (T : Txt K mg A) (c_is_unbeaten : Ca P w K mg base CX0 5 "is_unbeaten" (spIsUnbeaten A)) (D : Dn K mg "unbeaten_among" s_unbeaten_among ["listing", "among"]) : Ca P w K mg base CX0 6 "unbeaten_among" (spUnbAmong A) := by
  have sc := sc_unbeaten_among
  refine D.ca sc (fun vs H Q E h => ?_) (fun f cdv Ar outer s H vs Q E hr h => ?_)
  · obtain ⟨l, p, s, ns, rfl, _⟩ := h
    rfl
  · obtain ⟨l, p, sh, ns, rfl, hS, g, hp, hn, h16, q⟩ := h
    refine ⟨_, (pss_one (ps_ret (pe_lc (own := [("number", 2)]) (g := gName 2) rfl sc.nd (pi_list (pv 1)) (blkOk_by (own := [("number", 2)]) (N := ["listing", "among", "number"]) (sc := defScope s_unbeaten_among) (by decide +kernel)) (fun _ _ _ _ _ => pg_name (i := 2) sc.nd rfl (Or.inl rfl)) (fun _ _ _ _ _ => pts_one (pt_val (pe_ca c_is_unbeaten hr (pa_cons (pv 0) (pa_cons (pv 2) (pa_cons (pv 1) pa_nil)))))) (fun _ _ _ _ _ => (pv 2))))), ?_⟩
    refine ⟨_, rfl, p, rfl, ⟨_, SqL.of hp⟩, fun D nD => lc_list (K := K) (a := p) (xs := ns.map nV) (fun k H' => Same H H' ∧ H' D = some (.lst (((ns.take k).filter fun i => !ns.any fun j => beatN sh j i).map nV)))
      ⟨same_put (fun _ _ e => e) nD, upd_same⟩ (fun k H' _ ⟨sm, _⟩ => SqL.of (sm _ _ hp)) ?_ ?_⟩
    · rintro k y H' hy ⟨sm, hD⟩
      obtain ⟨i, hi, rfl⟩ := map_get hy
      refine ⟨rfl, _, rfl, _, rfl, _, rfl, l, p, sh, i, ns, rfl, hS.mono sm, g, hn i (List.mem_of_getElem? hi), sm _ _ hp, hn, fun H2 sm2 => ⟨_, rfl, ?_⟩⟩
      have sm3 : Same H H2 := fun b o e => sm2 _ _ (sm _ _ e)
      have hD2 := sm2 _ _ hD
      rw [filter_snoc hi]
      cases hb : (!ns.any fun j => beatN sh j i) with
      | true =>
        refine iteT ⟨_, rfl, _, hD2, len_lt (n := 16) (Nat.le_trans (Nat.le_trans (List.length_filter_le _ _) (List.length_take_le' _ _)) h16), same_put sm3 nD, ?_⟩
        rw [upd_same, if_pos rfl, List.map_append]
        rfl
      | false =>
        refine iteF ⟨sm3, ?_⟩
        rw [if_neg Bool.false_ne_true, List.append_nil]
        exact hD2
    · rintro H' ⟨sm, hD⟩
      rw [List.length_map, List.take_length] at hD
      exact q H' D sm nD hD
end
end Ub
namespace Ub
open PySem PySem.Spec PyProof.Rows L2
section
variable {P : Program} {w : World} {K : PySem.W.Frag} {mg : Str → Option Value} {base : Heap} {A : Ad}
/-! ### numbers, has_item, has_measure -/
theorem rgV_nat (n : Nat) : rgV 0 (n : Int) = (List.range n).map nV := by
  unfold rgV
  rw [show ((n : Int) - 0).toNat = n by omega]
  refine List.map_congr_left fun i _ => ?_
  unfold nV
  congr 1
  omega
def spNumbers (A : Ad) : Sp := fun vs H Q _ => ∃ (l : Addr) (s : Vaskya.Sheet), vs = [.ref l] ∧ SheetAt A H l s ∧ Good s ∧ ∀ p, H p = none → Q (.ref p) (upd H p (.lst ((List.range s.items.length).map nV)))
abbrev s_Listing_numbers : Stmt := inClass (top 46) 1
theorem sc_Listing_numbers : FnScope ["self"] ["self"] (defScope s_Listing_numbers) := ⟨rfl, rfl, rfl, by decide +kernel, rfl, by decide +kernel, by decide +kernel⟩
theorem c_numbers (T : Txt K mg A) (D : Mn K A.lst "numbers" "Listing.numbers" s_Listing_numbers ["self"]) : Me P w K mg base CX0 1 A.lst "numbers" (spNumbers A) := by
  have sc := sc_Listing_numbers
  refine D.me sc (fun vs H Q E h => ?_) (fun f cdv Ar outer s H vs Q E hr h => ?_)
  · obtain ⟨l, s, rfl, _⟩ := h
    rfl
  · obtain ⟨l, sh, rfl, ⟨dx, m, it, hl, hM, as, hI, hA⟩, g, q⟩ := h
    refine ⟨_, (pss_one (ps_ret (pe_listRg rfl rfl T.list (prg_1 rfl T.range (pe_callB call_len_seq (by rfl) T.len PySem.boot_len (pa_cons (pe_fld (pv 0) rfl) pa_nil)))))), ?_⟩
    refine ⟨_, rfl, l, _, dx, _, _, rfl, hl, T.cL, T.nLi, lu_members, it, _, rfl, .inl (SqL.of hI), _, rfl, ?_⟩
    rw [List.length_map, hA.1]
    have g16 := g.is16
    refine ⟨⟨by decide, by decide, ?_, ?_, ?_⟩, fun p np => ?_⟩
    · have : (0 : Int) ≤ (sh.items.length : Int) := Int.natCast_nonneg _
      omega
    · omega
    · omega
    · rw [rgV_nat]
      exact q p np
theorem mem_range {n i : Nat} (h : i ∈ List.range n) : i < n := List.mem_range.mp h
def spHas (A : Ad) (n : Vaskya.Sheet → Nat) : Sp := fun vs H Q _ => ∃ (l : Addr) (s : Vaskya.Sheet) (i : Int), vs = [.ref l, .int i] ∧ SheetAt A H l s ∧ Q (.bl (decide (0 ≤ i ∧ i < (n s : Int)))) H
abbrev s_Listing_has_item : Stmt := inClass (top 46) 2
theorem sc_Listing_has_item : FnScope ["self", "number"] ["self", "number"] (defScope s_Listing_has_item) := ⟨rfl, rfl, rfl, by decide +kernel, rfl, by decide +kernel, by decide +kernel⟩
theorem c_has_item (T : Txt K mg A) (D : Mn K A.lst "has_item" "Listing.has_item" s_Listing_has_item ["self", "number"]) : Me P w K mg base CX0 1 A.lst "has_item" (spHas A fun s => s.items.length) := by
  have sc := sc_Listing_has_item
  refine D.me sc (fun vs H Q E h => ?_) (fun f cdv Ar outer s H vs Q E hr h => ?_)
  · obtain ⟨l, s, i, rfl, _⟩ := h
    rfl
  · obtain ⟨l, sh, i, rfl, ⟨dx, m, it, hl, hM, as, hI, hA⟩, q⟩ := h
    refine ⟨_, (pss_one (ps_ret (pe_chain op_le op_lt pe_int (pv 1) (pe_callB call_len_seq (by rfl) T.len PySem.boot_len (pa_cons (pe_fld (pv 0) rfl) pa_nil))))), ?_⟩
    refine ⟨_, rfl, 0, i, rfl, rfl, _, rfl, ?_⟩
    by_cases h0 : (0 : Int) ≤ i
    · rw [decide_eq_true h0]
      refine iteT ⟨_, rfl, l, _, dx, _, _, rfl, hl, T.cL, T.nLi, lu_members, it, _, rfl, .inl (SqL.of hI), _, _, rfl, rfl, ?_⟩
      rw [List.length_map, hA.1]
      rw [show (decide (0 ≤ i ∧ i < (sh.items.length : Int))) = decide (i < (sh.items.length : Int)) from decide_eq_decide.mpr ⟨fun z => z.2, fun z => ⟨h0, z⟩⟩] at q
      exact q
    · rw [decide_eq_false h0]
      rw [decide_eq_false (fun z => h0 z.1)] at q
      exact iteF q
abbrev s_Listing_has_measure : Stmt := inClass (top 46) 3
theorem sc_Listing_has_measure : FnScope ["self", "number"] ["self", "number"] (defScope s_Listing_has_measure) := ⟨rfl, rfl, rfl, by decide +kernel, rfl, by decide +kernel, by decide +kernel⟩
theorem c_has_measure (T : Txt K mg A) (D : Mn K A.lst "has_measure" "Listing.has_measure" s_Listing_has_measure ["self", "number"]) : Me P w K mg base CX0 1 A.lst "has_measure" (spHas A fun s => s.ms.length) := by
  have sc := sc_Listing_has_measure
  refine D.me sc (fun vs H Q E h => ?_) (fun f cdv Ar outer s H vs Q E hr h => ?_)
  · obtain ⟨l, s, i, rfl, _⟩ := h
    rfl
  · obtain ⟨l, sh, i, rfl, ⟨dx, m, it, hl, ⟨as, hM, hA⟩, _⟩, q⟩ := h
    refine ⟨_, (pss_one (ps_ret (pe_chain op_le op_lt pe_int (pv 1) (pe_callB call_len_seq (by rfl) T.len PySem.boot_len (pa_cons (pe_fld (pv 0) rfl) pa_nil))))), ?_⟩
    refine ⟨_, rfl, 0, i, rfl, rfl, _, rfl, ?_⟩
    by_cases h0 : (0 : Int) ≤ i
    · rw [decide_eq_true h0]
      refine iteT ⟨_, rfl, l, _, dx, _, _, rfl, hl, T.cL, T.nLm, lu_measures, m, _, rfl, .inl (SqL.of hM), _, _, rfl, rfl, ?_⟩
      rw [List.length_map, hA.1]
      rw [show (decide (0 ≤ i ∧ i < (sh.ms.length : Int))) = decide (i < (sh.ms.length : Int)) from decide_eq_decide.mpr ⟨fun z => z.2, fun z => ⟨h0, z⟩⟩] at q
      exact q
    · rw [decide_eq_false h0]
      rw [decide_eq_false (fun z => h0 z.1)] at q
      exact iteF q
/-! ### beaters_of, beaten_by, reasons_of -/
def spFil (A : Ad) (f : Vaskya.Sheet → Nat → List Nat) : Sp := fun vs H Q _ => ∃ (l : Addr) (s : Vaskya.Sheet) (i : Nat), vs = [.ref l, nV i] ∧ SheetAt A H l s ∧ Good s ∧ i < s.items.length ∧
  ∀ H' D, Same H H' → H D = none → H' D = some (.lst ((f s i).map nV)) → Q (.ref D) H'
def beatersN (s : Vaskya.Sheet) (i : Nat) : List Nat := (List.range s.items.length).filter fun j => beatN s j i
def beatenN (s : Vaskya.Sheet) (i : Nat) : List Nat := (List.range s.items.length).filter fun j => beatN s i j
def reasonsN (s : Vaskya.Sheet) (i : Nat) : List Nat := unbG (beatN s) (beatersN s i)
theorem fil_len (p : Nat → Bool) {s : Vaskya.Sheet} (g : Good s) : ((List.range s.items.length).filter p).length ≤ 16 := by
  have h := List.length_filter_le p (List.range s.items.length)
  rw [List.length_range] at h
  have := g.is16
  omega
abbrev s_beaters_of : Stmt := top 8
theorem sc_beaters_of : FnScope ["listing", "number", "other"] ["listing", "number"] (defScope s_beaters_of) := ⟨rfl, rfl, rfl, by decide +kernel, rfl, by decide +kernel, by decide +kernel⟩
theorem c_beaters_of (T : Txt K mg A) (c_numbers : Me P w K mg base CX0 1 A.lst "numbers" (spNumbers A)) (c_beats : Ca P w K mg base CX0 4 "beats" (spBeats A)) (D : Dn K mg "beaters_of" s_beaters_of ["listing", "number"]) : Ca P w K mg base CX0 5 "beaters_of" (spFil A beatersN) := by
  have sc := sc_beaters_of
  refine D.ca sc (fun vs H Q E h => ?_) (fun f cdv Ar outer s H vs Q E hr h => ?_)
  · obtain ⟨l, s, i, rfl, _⟩ := h
    rfl
  · obtain ⟨l, sh, i, rfl, hS, g, hi, q⟩ := h
    refine ⟨_, (pss_one (ps_ret (pe_lc (own := [("other", 2)]) (g := gName 2) rfl sc.nd (pi_list (pe_mx0 c_numbers T.cL hr pass0 (pv 0))) (blkOk_by (own := [("other", 2)]) (N := ["listing", "number", "other"]) (sc := defScope s_beaters_of) (by decide +kernel)) (fun _ _ _ _ _ => pg_name (i := 2) sc.nd rfl (Or.inl rfl)) (fun _ _ _ _ _ => pts_one (pt_val (pe_ca c_beats hr (pa_cons (pv 0) (pa_cons (pv 2) (pa_cons (pv 1) pa_nil)))))) (fun _ _ _ _ _ => (pv 2))))), ?_⟩
    obtain ⟨dx, m, it, hl, _⟩ := id hS
    refine ⟨_, rfl, l, dx, _, rfl, hl, lu_nometh, l, sh, rfl, hS, g, fun p np => ?_⟩
    have sp1 : Same H (upd H p (.lst ((List.range sh.items.length).map nV))) := same_new np
    refine ⟨p, rfl, ⟨_, SqL.of upd_same⟩, fun D nD => lc_list (K := K) (a := p) (xs := (List.range sh.items.length).map nV) (fun k H' => Same (upd H p (.lst ((List.range sh.items.length).map nV))) H' ∧ H' D = some (.lst ((((List.range sh.items.length).take k).filter fun j => beatN sh j i).map nV)))
      ⟨same_put (fun _ _ e => e) nD, upd_same⟩ (fun k H' _ ⟨sm, _⟩ => SqL.of (sm _ _ upd_same)) ?_ ?_⟩
    · rintro k y H' hy ⟨sm, hD⟩
      obtain ⟨j, hj, rfl⟩ := map_get hy
      have sm0 : Same H H' := Same.trans sp1 sm
      refine ⟨rfl, _, rfl, _, rfl, _, rfl, l, sh, j, i, rfl, hS.mono sm0, g, mem_range (List.mem_of_getElem? hj), hi, fun H2 sm2 => ⟨_, rfl, ?_⟩⟩
      have sm3 := Same.trans sm sm2
      have hD2 := sm2 _ _ hD
      rw [filter_snoc hj]
      cases hb : beatN sh j i with
      | true =>
        refine iteT ⟨_, rfl, _, hD2, len_lt (n := 16) (Nat.le_trans (Nat.le_trans (List.length_filter_le _ _) (List.length_take_le' _ _)) (by rw [List.length_range]; exact g.is16)), same_put sm3 nD, ?_⟩
        rw [upd_same, if_pos rfl, List.map_append]
        rfl
      | false =>
        refine iteF ⟨sm3, ?_⟩
        rw [if_neg Bool.false_ne_true, List.append_nil]
        exact hD2
    · rintro H' ⟨sm, hD⟩
      rw [List.length_map, List.take_length] at hD
      exact q H' D (Same.trans sp1 sm) (sp1.free nD) hD
abbrev s_beaten_by : Stmt := top 9
theorem sc_beaten_by : FnScope ["listing", "number", "other"] ["listing", "number"] (defScope s_beaten_by) := ⟨rfl, rfl, rfl, by decide +kernel, rfl, by decide +kernel, by decide +kernel⟩
theorem c_beaten_by (T : Txt K mg A) (c_numbers : Me P w K mg base CX0 1 A.lst "numbers" (spNumbers A)) (c_beats : Ca P w K mg base CX0 4 "beats" (spBeats A)) (D : Dn K mg "beaten_by" s_beaten_by ["listing", "number"]) : Ca P w K mg base CX0 5 "beaten_by" (spFil A beatenN) := by
  have sc := sc_beaten_by
  refine D.ca sc (fun vs H Q E h => ?_) (fun f cdv Ar outer s H vs Q E hr h => ?_)
  · obtain ⟨l, s, i, rfl, _⟩ := h
    rfl
  · obtain ⟨l, sh, i, rfl, hS, g, hi, q⟩ := h
    refine ⟨_, (pss_one (ps_ret (pe_lc (own := [("other", 2)]) (g := gName 2) rfl sc.nd (pi_list (pe_mx0 c_numbers T.cL hr pass0 (pv 0))) (blkOk_by (own := [("other", 2)]) (N := ["listing", "number", "other"]) (sc := defScope s_beaten_by) (by decide +kernel)) (fun _ _ _ _ _ => pg_name (i := 2) sc.nd rfl (Or.inl rfl)) (fun _ _ _ _ _ => pts_one (pt_val (pe_ca c_beats hr (pa_cons (pv 0) (pa_cons (pv 1) (pa_cons (pv 2) pa_nil)))))) (fun _ _ _ _ _ => (pv 2))))), ?_⟩
    obtain ⟨dx, m, it, hl, _⟩ := id hS
    refine ⟨_, rfl, l, dx, _, rfl, hl, lu_nometh, l, sh, rfl, hS, g, fun p np => ?_⟩
    have sp1 : Same H (upd H p (.lst ((List.range sh.items.length).map nV))) := same_new np
    refine ⟨p, rfl, ⟨_, SqL.of upd_same⟩, fun D nD => lc_list (K := K) (a := p) (xs := (List.range sh.items.length).map nV) (fun k H' => Same (upd H p (.lst ((List.range sh.items.length).map nV))) H' ∧ H' D = some (.lst ((((List.range sh.items.length).take k).filter fun j => beatN sh i j).map nV)))
      ⟨same_put (fun _ _ e => e) nD, upd_same⟩ (fun k H' _ ⟨sm, _⟩ => SqL.of (sm _ _ upd_same)) ?_ ?_⟩
    · rintro k y H' hy ⟨sm, hD⟩
      obtain ⟨j, hj, rfl⟩ := map_get hy
      have sm0 : Same H H' := Same.trans sp1 sm
      refine ⟨rfl, _, rfl, _, rfl, _, rfl, l, sh, i, j, rfl, hS.mono sm0, g, hi, mem_range (List.mem_of_getElem? hj), fun H2 sm2 => ⟨_, rfl, ?_⟩⟩
      have sm3 := Same.trans sm sm2
      have hD2 := sm2 _ _ hD
      rw [filter_snoc hj]
      cases hb : beatN sh i j with
      | true =>
        refine iteT ⟨_, rfl, _, hD2, len_lt (n := 16) (Nat.le_trans (Nat.le_trans (List.length_filter_le _ _) (List.length_take_le' _ _)) (by rw [List.length_range]; exact g.is16)), same_put sm3 nD, ?_⟩
        rw [upd_same, if_pos rfl, List.map_append]
        rfl
      | false =>
        refine iteF ⟨sm3, ?_⟩
        rw [if_neg Bool.false_ne_true, List.append_nil]
        exact hD2
    · rintro H' ⟨sm, hD⟩
      rw [List.length_map, List.take_length] at hD
      exact q H' D (Same.trans sp1 sm) (sp1.free nD) hD
abbrev s_reasons_of : Stmt := top 10
theorem sc_reasons_of : FnScope ["listing", "number"] ["listing", "number"] (defScope s_reasons_of) := ⟨rfl, rfl, rfl, by decide +kernel, rfl, by decide +kernel, by decide +kernel⟩
theorem c_reasons_of (T : Txt K mg A) (c_unbeaten_among : Ca P w K mg base CX0 6 "unbeaten_among" (spUnbAmong A)) (c_beaters_of : Ca P w K mg base CX0 5 "beaters_of" (spFil A beatersN)) (D : Dn K mg "reasons_of" s_reasons_of ["listing", "number"]) : Ca P w K mg base CX0 7 "reasons_of" (spFil A reasonsN) := by
  have sc := sc_reasons_of
  refine D.ca sc (fun vs H Q E h => ?_) (fun f cdv Ar outer s H vs Q E hr h => ?_)
  · obtain ⟨l, s, i, rfl, _⟩ := h
    rfl
  · obtain ⟨l, sh, i, rfl, hS, g, hi, q⟩ := h
    refine ⟨_, (pss_one (ps_ret (pe_ca c_unbeaten_among hr (pa_cons (pv 0) (pa_cons (pe_ca c_beaters_of hr (pa_cons (pv 0) (pa_cons (pv 1) pa_nil))) pa_nil))))), ?_⟩
    refine ⟨_, rfl, _, rfl, _, rfl, l, sh, i, rfl, hS, g, hi, fun H1 D1 s1 n1 e1 => ?_⟩
    refine ⟨l, D1, sh, _, rfl, hS.mono s1, g, e1, fun n hn => mem_range (List.mem_filter.mp hn).1, fil_len _ g, fun H2 D2 s2 n2 e2 => ?_⟩
    exact q H2 D2 (Same.trans s1 s2) (s1.free n2) e2
end
end Ub
namespace Ub
open PySem PySem.Spec PyProof.Rows L2
section
variable {P : Program} {w : World} {K : PySem.W.Frag} {mg : Str → Option Value} {base : Heap} {A : Ad}
/-! ### layers_of -/
def LaysAt (H : Hp) (p : Addr) (ls : List (List Nat)) : Prop := ∃ as : List Addr, H p = some (.lst (as.map V.ref)) ∧ All2 (fun a l => a ≠ p ∧ H a = some (.lst (l.map nV))) as ls
def layersN (s : Vaskya.Sheet) : List (List Nat) := layG (beatN s) s.items.length (List.range s.items.length)
theorem inV_nat (i : Nat) (ns : List Nat) : inV (nV i) (ns.map nV) = ns.contains i := by
  unfold inV
  induction ns with
  | nil => rfl
  | cons x r ih =>
    rw [List.map_cons, List.any_cons, List.contains_cons, ih]
    congr 1
    show ((x : Int) == (i : Int)) = (i == x)
    by_cases h : x = i
    · subst h; rw [beq_self_eq_true, beq_self_eq_true]
    · have h' : ¬ i = x := fun e => h e.symm
      have h2 : ¬ (x : Int) = (i : Int) := by omega
      rw [beq_eq_false_iff_ne.mpr h2, beq_eq_false_iff_ne.mpr h']
theorem flat_nat (ns : List Nat) : (ns.map nV).all flatV = true := by
  rw [List.all_eq_true]
  intro x hx
  obtain ⟨n, _, rfl⟩ := List.mem_map.mp hx
  rfl
theorem unbG_len (bt : Nat → Nat → Bool) (ns : List Nat) : (unbG bt ns).length ≤ ns.length := List.length_filter_le _ _
def spLayers (A : Ad) : Sp := fun vs H Q _ => ∃ (l : Addr) (s : Vaskya.Sheet), vs = [.ref l] ∧ SheetAt A H l s ∧ Good s ∧ Ranked (beatN s) s.items.length ∧
  ∀ H' p, Same H H' → H p = none → LaysAt H' p (layersN s) → Q (.ref p) H'
theorem layG_len {bt : Nat → Nat → Bool} : ∀ (n : Nat) (is : List Nat), (layG bt n is).length ≤ n
  | 0, _ => Nat.le_refl _
  | n + 1, is => by
    show (if is.isEmpty = true then [] else unbG bt is :: layG bt n _).length ≤ n + 1
    split
    · exact Nat.zero_le _
    · rw [List.length_cons]
      exact Nat.succ_le_succ (layG_len n _)
abbrev s_layers_of : Stmt := top 11
theorem sc_layers_of : FnScope ["listing", "layers", "left", "layer", "number"] ["listing"] (defScope s_layers_of) := ⟨rfl, rfl, rfl, by decide +kernel, rfl, by decide +kernel, by decide +kernel⟩
theorem c_layers_of (T : Txt K mg A) (c_numbers : Me P w K mg base CX0 1 A.lst "numbers" (spNumbers A)) (c_unbeaten_among : Ca P w K mg base CX0 6 "unbeaten_among" (spUnbAmong A)) (D : Dn K mg "layers_of" s_layers_of ["listing"]) : Ca P w K mg base CX0 7 "layers_of" (spLayers A) := by
  have sc := sc_layers_of
  refine D.ca sc (fun vs H Q E h => ?_) (fun f cdv Ar outer s H vs Q E hr h => ?_)
  · obtain ⟨l, s, rfl, _⟩ := h
    rfl
  · obtain ⟨l, sh, rfl, hS, g, R, q⟩ := h
    refine ⟨_, (pss_cons (ps_set (i := 1) sc.nd rfl (Or.inl rfl) (pe_lst pa_nil))
      (pss_cons (ps_set (i := 2) sc.nd rfl (Or.inl rfl) (pe_mx0 c_numbers T.cL hr pass0 (pv 0)))
      (pss_cons (ps_while PassesOwn.never (pt_cmpR op_gt (pe_callB call_len_seq (by rfl) T.len PySem.boot_len (pa_cons (pv 2) pa_nil)) pe_int (nomark _)) (pss_cons (ps_set (i := 3) sc.nd rfl (Or.inr rfl) (pe_ca c_unbeaten_among hr (pa_cons (pv 0) (pa_cons (pv 2) pa_nil))))
      (pss_cons (ps_expr (pe_bm PySem.F.plainAttrs_list PySem.F.slot_list_append PySem.F.type_list_append mt_append (pv 1) (pa_cons (pv 3) pa_nil)))
      (pss_one (ps_setLc (i := 2) (own := [("number", 4)]) (g := gName 4) rfl sc.nd rfl rfl (sw_true rfl rfl rfl (by decide +kernel)) (pi_list (pv 2)) (blkOk_by (own := [("number", 4)]) (N := ["listing", "layers", "left", "layer", "number"]) (sc := defScope s_layers_of) (by decide +kernel)) (fun _ _ _ _ _ => pg_name (i := 4) sc.nd rfl (Or.inl rfl)) (fun _ _ _ _ _ => pts_one (pt_cmpR (r := rIn K true) op_notIn_seq (pv 4) (pv 3) (by rfl))) (fun _ _ _ _ _ => (pv 4)))))))
      (pss_one (ps_ret (pv 1)))))), ?_⟩
    -- layers = []; left = listing.numbers()
    refine ⟨Nat.zero_le _, fun p np => ?_⟩
    have s1 : Same H (upd H p (.lst [])) := same_new np
    obtain ⟨dx, m, it, hl, _⟩ := id hS
    refine ⟨_, rfl, l, dx, _, rfl, s1 _ _ hl, lu_nometh, l, sh, rfl, hS.mono s1, g, fun b nb => ?_⟩
    have nbp : p ≠ b := fun z => by
      rw [← z, upd_same] at nb
      cases nb
    have s2 : Same H (upd (upd H p (.lst [])) b (.lst ((List.range sh.items.length).map nV))) := Same.trans s1 (same_new nb)
    -- the loop
    refine ⟨fun mm σ H' => ∃ (ll : Addr) (ns : List Nat) (ls : List (List Nat)) (v3 : Option V), σ = [some (.ref l), some (.ref p), some (.ref ll), v3, none] ∧ Same H H' ∧ ll ≠ p ∧ H' ll = some (.lst (ns.map nV)) ∧ LaysAt H' p ls ∧
      (∀ n ∈ ns, n < sh.items.length) ∧ ns.length ≤ 16 ∧ ls ++ layG (beatN sh) ns.length ns = layersN sh ∧ mm = ns.length, ⟨_, b, List.range sh.items.length, [], none, rfl, s2, nbp.symm, upd_same, ?_, fun n hn => mem_range hn, ?_, ?_, rfl⟩, ?_⟩
    · exact ⟨[], by rw [upd_ne nbp]; exact upd_same, All2.nil⟩
    · rw [List.length_range]
      exact g.is16
    · rw [List.length_range]
      rfl
    · rintro mm σ H' ⟨ll, ns, ls, v3, rfl, sm, nlp, hll, hls, hN, h16, hE, rfl⟩
      refine ⟨_, rfl, ll, _, rfl, .inl (SqL.of hll), _, _, rfl, rfl, _, rfl, ?_⟩
      rw [List.length_map]
      by_cases h0 : ns = []
      · subst h0
        refine iteF ⟨_, rfl, ?_⟩
        have : layG (beatN sh) ([] : List Nat).length [] = [] := rfl
        rw [this, List.append_nil] at hE
        rw [hE] at hls
        exact q H' p sm np hls
      · have hpos : 0 < ns.length := List.length_pos_iff.mpr h0
        rw [decide_eq_true (show (0 : Int) < (ns.length : Int) by omega)]
        refine iteT ⟨fun σ' H2 => ∃ m', m' < ns.length ∧ ∃ (ll : Addr) (ns' : List Nat) (ls : List (List Nat)) (v3 : Option V), σ' = [some (.ref l), some (.ref p), some (.ref ll), v3, none] ∧ Same H H2 ∧ ll ≠ p ∧ H2 ll = some (.lst (ns'.map nV)) ∧ LaysAt H2 p ls ∧
          (∀ n ∈ ns', n < sh.items.length) ∧ ns'.length ≤ 16 ∧ ls ++ layG (beatN sh) ns'.length ns' = layersN sh ∧ m' = ns'.length, fun _ _ z => z, ?_⟩
        -- layer = unbeaten_among(listing, left)
        refine ⟨_, rfl, _, rfl, l, ll, sh, ns, rfl, hS.mono sm, g, hll, hN, h16, fun H2 D s3 nD hD => ?_⟩
        have sm2 := Same.trans sm s3
        obtain ⟨as, hp2, hA⟩ := hls
        have hp3 := s3 _ _ hp2
        have nDp : D ≠ p := (ne_of_none hp2 nD).symm
        -- layers.append(layer)
        have hasz : as.length ≤ 16 := by
          have h1 := hA.1
          have h2 := congrArg List.length hE
          rw [List.length_append] at h2
          have h3 : (layersN sh).length ≤ sh.items.length := layG_len _ _
          have := g.is16
          omega
        refine ⟨_, rfl, .inl ⟨rfl, _, SqL.of hp3⟩, _, rfl, p, _, _, rfl, rfl, hp3, len_lt (n := 16) hasz, ?_⟩
        have sm4 : Same H (upd H2 p (.lst (as.map V.ref ++ [.ref D]))) := same_put sm2 np
        have hll4 : (upd H2 p (.lst (as.map V.ref ++ [.ref D]))) ll = some (.lst (ns.map nV)) := by
          rw [upd_ne nlp]
          exact s3 _ _ hll
        have hD4 : (upd H2 p (.lst (as.map V.ref ++ [.ref D]))) D = some (.lst ((unbG (beatN sh) ns).map nV)) := by
          rw [upd_ne nDp]
          exact hD
        -- left = [number for number in left if number not in layer]
        refine ⟨_, rfl, ll, rfl, ⟨_, SqL.of hll4⟩, fun D2 nD2 => lc_list (K := K) (a := ll) (xs := ns.map nV) (fun k H' => Same (upd H2 p (.lst (as.map V.ref ++ [.ref D]))) H' ∧ H' D2 = some (.lst (((ns.take k).filter fun i => !(unbG (beatN sh) ns).contains i).map nV)))
          ⟨same_put (fun _ _ e => e) nD2, upd_same⟩ (fun k H' _ ⟨sm, _⟩ => SqL.of (sm _ _ hll4)) ?_ ?_⟩
        · rintro k y H3 hy ⟨s5, hD2⟩
          obtain ⟨i, hi, rfl⟩ := map_get hy
          refine ⟨rfl, _, rfl, _, rfl, D, _, rfl, .inl (SqL.of (s5 _ _ hD4)), rfl, flat_nat _, _, rfl, ?_⟩
          rw [filter_snoc hi]
          show if (!inV (nV i) _) = true then _ else _
          rw [inV_nat]
          cases hb : (!(unbG (beatN sh) ns).contains i) with
          | true =>
            refine iteT ⟨_, rfl, _, hD2, len_lt (n := 16) (Nat.le_trans (Nat.le_trans (List.length_filter_le _ _) (List.length_take_le' _ _)) h16), same_put s5 nD2, ?_⟩
            rw [upd_same, if_pos rfl, List.map_append]
            rfl
          | false =>
            refine iteF ⟨s5, ?_⟩
            rw [if_neg Bool.false_ne_true, List.append_nil]
            exact hD2
        · rintro H3 ⟨s5, hD2⟩
          rw [List.length_map, List.take_length] at hD2
          have nD2p : D2 ≠ p := fun z => by
            rw [z, upd_same] at nD2
            cases nD2
          have hstep := layG_step R hN h0
          refine ⟨_, left_less R hN h0, D2, _, ls ++ [unbG (beatN sh) ns], some (.ref D), rfl, Same.trans sm4 s5, nD2p, hD2, ⟨as ++ [D], ?_, ?_⟩, left_sub hN, ?_, ?_, rfl⟩
          · rw [List.map_append]
            exact s5 _ _ upd_same
          · refine All2.snoc (hA.mono fun a x z => ⟨z.1, s5 _ _ ?_⟩) ⟨nDp, s5 _ _ hD4⟩
            rw [upd_ne z.1]
            exact s3 _ _ z.2
          · exact Nat.le_trans (List.length_filter_le _ _) h16
          · rw [List.append_assoc, List.singleton_append, ← hstep]
            exact hE
/-! ### layer_number -/
def layerN (s : Vaskya.Sheet) (i : Nat) : Nat := (layersN s).findIdx (fun u => u.contains i) + 1
def spLayerNo (A : Ad) : Sp := fun vs H Q _ => ∃ (l : Addr) (s : Vaskya.Sheet) (i : Nat), vs = [.ref l, nV i] ∧ SheetAt A H l s ∧ Good s ∧ Ranked (beatN s) s.items.length ∧ i < s.items.length ∧
  ∀ H', Same H H' → Q (nV (layerN s i)) H'
abbrev s_layer_number : Stmt := top 12
theorem sc_layer_number : FnScope ["listing", "number", "in_layers", "layer"] ["listing", "number"] (defScope s_layer_number) := ⟨rfl, rfl, rfl, by decide +kernel, rfl, by decide +kernel, by decide +kernel⟩
theorem c_layer_number (T : Txt K mg A) (c_layers_of : Ca P w K mg base CX0 7 "layers_of" (spLayers A)) (D : Dn K mg "layer_number" s_layer_number ["listing", "number"]) : Ca P w K mg base CX0 8 "layer_number" (spLayerNo A) := by
  have sc := sc_layer_number
  refine D.ca sc (fun vs H Q E h => ?_) (fun f cdv Ar outer s H vs Q E hr h => ?_)
  · obtain ⟨l, s, i, rfl, _⟩ := h
    rfl
  · obtain ⟨l, sh, i, rfl, hS, g, R, hi, q⟩ := h
    refine ⟨_, (pss_cons (ps_setLc (i := 2) (own := [("layer", 3)]) (g := gName 3) rfl sc.nd rfl rfl (sw_true rfl rfl rfl (by decide +kernel)) (pi_list (pe_ca c_layers_of hr (pa_cons (pv 0) pa_nil))) (blkOk_by (own := [("layer", 3)]) (N := ["listing", "number", "in_layers", "layer"]) (sc := defScope s_layer_number) (by decide +kernel)) (fun _ _ _ _ _ => pg_name (i := 3) sc.nd rfl (Or.inl rfl)) (fun _ _ _ _ _ => pts_nil) (fun _ _ _ _ _ => (pe_cmpR (r := rIn K false) op_in_seq (pv 1) (pv 3) (by rfl))))
      (pss_one (ps_ret (pe_op op_add (pe_bm PySem.F.plainAttrs_list PySem.F.slot_list_index PySem.F.type_list_index mt_index (pv 2) (pa_cons pe_bl pa_nil)) pe_int)))), ?_⟩
    refine ⟨_, rfl, l, sh, rfl, hS, g, R, fun H1 p s1 np ⟨as, hp, hA⟩ => ?_⟩
    have hl16 : (layersN sh).length ≤ 16 := Nat.le_trans (layG_len _ _) g.is16
    refine ⟨p, rfl, ⟨_, SqL.of hp⟩, fun D nD => lc_list (K := K) (a := p) (xs := as.map V.ref) (fun k H' => Same H1 H' ∧ H' D = some (.lst (((layersN sh).take k).map fun u => V.bl (u.contains i))))
      ⟨same_put (fun _ _ e => e) nD, upd_same⟩ (fun k H' _ ⟨sm, _⟩ => SqL.of (sm _ _ hp)) ?_ ?_⟩
    · rintro k y H' hy ⟨sm, hD⟩
      obtain ⟨a, ha, rfl⟩ := map_get hy
      obtain ⟨u, hu, _, hau⟩ := hA.getA ha
      refine ⟨rfl, @iteT _ (Same H1 H' ∧ H' D = some (HO.lst (List.map (fun u => V.bl (u.contains i)) (List.take (k + 1) (layersN sh))))) ?_⟩
      refine ⟨_, rfl, _, rfl, a, _, rfl, .inl (SqL.of (sm _ _ hau)), rfl, flat_nat _, ?_⟩
      refine ⟨_, hD, len_lt (n := 16) (Nat.le_trans (List.length_take_le' _ _) hl16), same_put sm nD, ?_⟩
      rw [upd_same, take_snoc hu, List.map_append]
      show some (HO.lst (_ ++ [V.bl (inV (nV i) _)])) = _
      rw [inV_nat]
      rfl
    · rintro H' ⟨sm, hD⟩
      have e1 : (as.map V.ref).length = (layersN sh).length := by rw [List.length_map, hA.1]
      rw [e1, List.take_length] at hD
      -- the index of True
      obtain ⟨u, hu, hiu⟩ := layG_mem R sh.items.length (List.range sh.items.length) (fun n hn => mem_range hn) (by rw [List.length_range]; exact Nat.le_refl _) i (List.mem_range.mpr hi)
      have hlt : (layersN sh).findIdx (fun u => u.contains i) < (layersN sh).length := List.findIdx_lt_length_of_exists ⟨u, hu, List.elem_eq_true_of_mem hiu⟩
      refine ⟨_, rfl, .inl ⟨rfl, _, SqL.of hD⟩, D, _, .bl true, (layersN sh).findIdx (fun u => u.contains i), .bl true, rfl, rfl, SqL.of hD, rfl, ?_, ?_, rfl, ?_, ?_⟩
      · rw [List.all_eq_true]
        intro x hx
        obtain ⟨n, _, rfl⟩ := List.mem_map.mp hx
        rfl
      · rw [List.getElem?_map, List.getElem?_eq_getElem hlt]
        exact congrArg (fun b => some (V.bl b)) (List.findIdx_getElem (p := fun u : List Nat => u.contains i) (xs := layersN sh) (w := hlt))
      · intro m z' hm hz
        obtain ⟨u', hu', rfl⟩ := map_get hz
        have hml : m < (layersN sh).length := (List.getElem?_eq_some_iff.mp hu').1
        have e2 := List.not_of_lt_findIdx (p := fun u : List Nat => u.contains i) hm
        have e3 : u' = (layersN sh)[m] := (List.getElem?_eq_some_iff.mp hu').2.symm
        rw [e3]
        show ((layersN sh)[m].contains i == true) = false
        rw [e2]
        rfl
      · refine ⟨_, _, rfl, rfl, ?_⟩
        have := q H' (Same.trans s1 sm)
        unfold layerN nV at this
        rw [show (((layersN sh).findIdx (fun u => u.contains i) + 1 : Nat) : Int) = ((layersN sh).findIdx (fun u => u.contains i) : Int) + 1 from rfl] at this
        exact this
end
end Ub
namespace Ub
open PySem PySem.Spec PyProof.Rows L2
section
variable {P : Program} {w : World} {K : PySem.W.Frag} {mg : Str → Option Value} {base : Heap} {A : Ad}
/-- a loop over enumerate of a list -/
theorem for_en {K : PySem.W.Frag} {a : Addr} {xs : List V} {g : TG} {tb : TS} {D : Ends} {σ : L2.St} {H : Hp} (Pv : Nat → L2.St → Hp → Prop) (h0 : Pv 0 σ H) (hq : ∀ i σ H, Pv i σ H → SqL K H a xs)
    (hs : ∀ (i : Nat) (x : V) (T : Addr) (σ : L2.St) (H : Hp), xs[i]? = some x → Pv i σ H → H T = none → g (.ref T) σ (upd H T (.tup [.int (i : Nat), x])) fun σ2 H2 => tb { D with nx := Pv (i + 1), ct := Pv (i + 1), bk := D.nx } σ2 H2) (hd : ∀ σ H, Pv xs.length σ H → D.nx σ H) :
    ∃ W : Nat → Nat → L2.St → Hp → Prop, (∃ m, W 0 m σ H) ∧ ∀ i m σ H, W i m σ H →
      ((Ite K a).stop i H ∧ D.nx σ H) ∨ ((Ite K a).go i H ∧ ∃ N : L2.St → Hp → Prop, (∀ σ' H', N σ' H' → ∃ m', m' < m ∧ W (i + 1) m' σ' H') ∧ ∀ v H', (Ite K a).yld i H v H' → g v σ H' fun σ2 H2 => tb { D with nx := N, ct := N, bk := D.nx } σ2 H2) := by
  refine ⟨fun i m σ H => m = xs.length - i ∧ i ≤ xs.length ∧ Pv i σ H, ⟨xs.length, rfl, Nat.zero_le _, h0⟩, ?_⟩
  rintro i m σ H ⟨rfl, hi, p⟩
  have qx := hq i σ H p
  by_cases hlt : i < xs.length
  · have hx : xs[i]? = some xs[i] := List.getElem?_eq_getElem hlt
    refine .inr ⟨⟨xs, _, qx, hx⟩, Pv (i + 1), fun σ' H' p' => ⟨xs.length - (i + 1), by omega, rfl, hlt, p'⟩, fun v H' y => ?_⟩
    obtain ⟨T, x', rfl, hT, rfl, f1⟩ := y
    exact hs i x' T σ H (f1 xs qx) p hT
  · have e : i = xs.length := by omega
    subst e
    exact .inl ⟨⟨xs, qx, Nat.le_refl _⟩, hd σ H p⟩
def sameAt (xs ys : List Int) (m k : Nat) : Bool := decide (k = m) || decide (xs.getD k 0 = ys.getD k 0)
def sameBut (xs ys : List Int) (m : Nat) : Bool := (List.range xs.length).all (sameAt xs ys m)
theorem all_range_succ {p : Nat → Bool} {i : Nat} (h : (List.range i).all p = true) (hi : p i = true) : (List.range (i + 1)).all p = true := by
  rw [List.range_succ, List.all_append, h]
  show (true && (p i && true)) = true
  rw [hi] <;> rfl
theorem range_false {p : Nat → Bool} {i n : Nat} (h : i < n) (hi : p i = false) : (List.range n).all p = false := by
  cases q : (List.range n).all p with
  | false => rfl
  | true =>
    rw [List.all_eq_true] at q
    have := q i (List.mem_range.mpr h)
    rw [hi] at this
    cases this
theorem getD_of {α : Type} {l : List α} {i : Nat} {x d : α} (h : l[i]? = some x) : l.getD i d = x := by
  rw [List.getD_eq_getElem?_getD, h]
  rfl
def spSameBut : Sp := fun vs H Q _ => ∃ (r1 r2 : Addr) (xs ys : List Int) (m : Nat), vs = [.ref r1, .ref r2, nV m] ∧ H r1 = some (.lst (xs.map V.int)) ∧ H r2 = some (.lst (ys.map V.int)) ∧ xs.length = ys.length ∧
  ∀ H', Same H H' → Q (.bl (sameBut xs ys m)) H'
abbrev s_same_but_at : Stmt := top 14
theorem sc_same_but_at : FnScope ["row", "other_row", "measure_number", "at", "value"] ["row", "other_row", "measure_number"] (defScope s_same_but_at) := ⟨rfl, rfl, rfl, by decide +kernel, rfl, by decide +kernel, by decide +kernel⟩
theorem c_same_but_at (T : Txt K mg A) (D : Dn K mg "same_but_at" s_same_but_at ["row", "other_row", "measure_number"]) : Ca P w K mg base CX0 1 "same_but_at" spSameBut := by
  have sc := sc_same_but_at
  refine D.ca sc (fun vs H Q E h => ?_) (fun f cdv Ar outer s H vs Q E hr h => ?_)
  · obtain ⟨r1, r2, xs, ys, m, rfl, _⟩ := h
    rfl
  · obtain ⟨r1, r2, xs, ys, m, rfl, h1, h2, hl, q⟩ := h
    refine ⟨_, (pss_cons (ps_for PassesOwn.never rfl (pi_enum (by rfl) T.enumerate (pa_cons (pv 0) pa_nil)) (pg_tup rfl (pgs_cons (pg_name (i := 3) sc.nd rfl (Or.inl rfl)) (pgs_cons (pg_name (i := 4) sc.nd rfl (Or.inl rfl)) pgs_nil))) (pss_one (ps_if (PW.pt (pw_and (pt_cmpR op_ne (pv 3) (pv 2) (nomark _)) (pw_and1 (pt_cmpR op_ne (pv 4) (pe_ix ix_list (pv 1) (pv 3) (fun _ _ => rfl)) (nomark _))))) (pss_one (ps_ret pe_bl)) pss_nil)))
      (pss_one (ps_ret pe_bl))), ?_⟩
    refine ⟨.ref r1, rfl, r1, _, rfl, SqL.of h1, for_en (K := K) (a := r1) (xs := xs.map V.int) (fun i σ H' => ∃ v3 v4, σ = [some (.ref r1), some (.ref r2), some (nV m), v3, v4] ∧ Same H H' ∧ (List.range i).all (sameAt xs ys m) = true)
      ⟨none, none, rfl, fun _ _ e => e, rfl⟩ (fun i σ H' ⟨_, _, _, sm, _⟩ => SqL.of (sm _ _ h1)) ?_ ?_⟩
    · rintro i x Tt σ H' hx ⟨v3, v4, rfl, sm, hall⟩ nT
      obtain ⟨u, hu, rfl⟩ := map_get hx
      have hi : i < xs.length := (List.getElem?_eq_some_iff.mp hu).1
      have hy : ys[i]? = some ys[i] := List.getElem?_eq_getElem (by omega)
      have sm' : Same H (upd H' Tt (.tup [.int (i : Nat), V.int u])) := fun b o e => same_new nT _ _ (sm _ _ e)
      refine ⟨Tt, [.int (i : Nat), V.int u], rfl, SqT.of upd_same, rfl, _, _, rfl, _, _, rfl, rfl, ?_⟩
      refine ⟨_, rfl, _, rfl, rfl, _, rfl, ?_⟩
      have e1 : decide (V.int ((i : Nat) : Int) = nV m) = decide (i = m) := decide_eq_decide.mpr ⟨fun z => by injection z with z; omega, fun z => by rw [z]; rfl⟩
      have e2 : sameAt xs ys m i = (decide (i = m) || decide (u = ys[i])) := by
        unfold sameAt
        rw [getD_of hu, getD_of hy]
      rw [e1]
      by_cases c1 : i = m
      · rw [decide_eq_true c1] at e2 ⊢
        refine iteF (iteF ⟨_, _, rfl, sm', all_range_succ hall e2⟩)
      · rw [decide_eq_false c1] at e2 ⊢
        refine iteT ⟨_, rfl, _, rfl, _, rfl, r2, _, _, _, rfl, rfl, SqL.of (sm' _ _ h2), atI_nat (map_at hy), rfl, _, rfl, ?_⟩
        by_cases c2 : u = ys[i]
        · rw [decide_eq_true (show V.int u = V.int ys[i] by rw [c2])]
          rw [decide_eq_true c2] at e2
          exact iteF ⟨_, _, rfl, sm', all_range_succ hall e2⟩
        · rw [decide_eq_false (show ¬ V.int u = V.int ys[i] from fun z => c2 (by injection z))]
          rw [decide_eq_false c2] at e2
          refine iteT ?_
          have := q _ sm'
          unfold sameBut at this
          rw [range_false hi e2] at this
          exact this
    · rintro σ H' ⟨v3, v4, rfl, sm, hall⟩
      rw [List.length_map] at hall
      have := q _ sm
      unfold sameBut at this
      rw [hall] at this
      exact this
def gainA (s : Vaskya.Sheet) (i b m : Nat) : Int :=
  let d := leadZ ((s.ms[m]?.map (·.up)).getD true) ((valsOf s b).getD m 0) ((valsOf s i).getD m 0)
  if sameBut (valsOf s i) (valsOf s b) m = true then d else d + 1
def spGainAg (A : Ad) : Sp := fun vs H Q _ => ∃ (l : Addr) (s : Vaskya.Sheet) (i b m : Nat), vs = [.ref l, nV i, nV b, nV m] ∧ SheetAt A H l s ∧ Good s ∧ i < s.items.length ∧ b < s.items.length ∧ m < s.ms.length ∧
  ∀ H', Same H H' → Q (.int (gainA s i b m)) H'
abbrev s_gain_against : Stmt := top 15
theorem sc_gain_against : FnScope ["listing", "number", "beater", "measure_number", "row", "beater_row", "measure", "behind"] ["listing", "number", "beater", "measure_number"] (defScope s_gain_against) := ⟨rfl, rfl, rfl, by decide +kernel, rfl, by decide +kernel, by decide +kernel⟩
theorem c_gain_against (T : Txt K mg A) (c_lead : Ca P w K mg base CX0 1 "lead" (spLead A)) (c_same_but_at : Ca P w K mg base CX0 1 "same_but_at" spSameBut) (D : Dn K mg "gain_against" s_gain_against ["listing", "number", "beater", "measure_number"]) : Ca P w K mg base CX0 2 "gain_against" (spGainAg A) := by
  have sc := sc_gain_against
  refine D.ca sc (fun vs H Q E h => ?_) (fun f cdv Ar outer s H vs Q E hr h => ?_)
  · obtain ⟨l, s, i, b, m, rfl, _⟩ := h
    rfl
  · obtain ⟨l, sh, i, b, mn, rfl, ⟨dx, m, it, hl, ⟨ams, hM, hMA⟩, as, hI, hA⟩, g, hi, hb, hm, q⟩ := h
    refine ⟨_, (pss_cons (ps_set (i := 4) sc.nd rfl (Or.inl rfl) (pe_fld (pe_ix ix_list (pe_fld (pv 0) rfl) (pv 1) (fun _ _ => rfl)) rfl))
      (pss_cons (ps_set (i := 5) sc.nd rfl (Or.inl rfl) (pe_fld (pe_ix ix_list (pe_fld (pv 0) rfl) (pv 2) (fun _ _ => rfl)) rfl))
      (pss_cons (ps_set (i := 6) sc.nd rfl (Or.inl rfl) (pe_ix ix_list (pe_fld (pv 0) rfl) (pv 3) (fun _ _ => rfl)))
      (pss_cons (ps_set (i := 7) sc.nd rfl (Or.inl rfl) (pe_ca c_lead hr (pa_cons (pv 6) (pa_cons (pe_ix ix_list (pv 5) (pv 3) (fun _ _ => rfl)) (pa_cons (pe_ix ix_list (pv 4) (pv 3) (fun _ _ => rfl)) pa_nil)))))
      (pss_cons (ps_if (pt_val (pe_ca c_same_but_at hr (pa_cons (pv 4) (pa_cons (pv 5) (pa_cons (pv 3) pa_nil))))) (pss_one (ps_ret (pv 7))) pss_nil)
      (pss_one (ps_ret (pe_op op_add (pv 7) pe_int)))))))), ?_⟩
    obtain ⟨ai, hai, dxi, ni, ri, a1, a2, a3⟩ := hA.get (List.getElem?_eq_getElem hi)
    obtain ⟨aj, haj, dxj, nj, rj, b1, b2, b3⟩ := hA.get (List.getElem?_eq_getElem hb)
    obtain ⟨am, ham, hmm⟩ := hMA.get (List.getElem?_eq_getElem hm)
    have wi : sh.items[i].vs.length = sh.ms.length := g.wid _ (List.getElem_mem hi)
    have wb : sh.items[b].vs.length = sh.ms.length := g.wid _ (List.getElem_mem hb)
    have gi : sh.items[i].vs[mn]? = some sh.items[i].vs[mn] := List.getElem?_eq_getElem (by omega)
    have gb : sh.items[b].vs[mn]? = some sh.items[b].vs[mn] := List.getElem?_eq_getElem (by omega)
    -- row, beater_row, measure
    refine ⟨_, rfl, l, _, dx, _, _, rfl, hl, T.cL, T.nLi, lu_members, _, rfl, it, _, _, _, rfl, rfl, SqL.of hI, atI_nat (map_at hai), ai, _, dxi, _, _, rfl, a1, T.cI, T.nIr, lu_row, ?_⟩
    refine ⟨_, rfl, l, _, dx, _, _, rfl, hl, T.cL, T.nLi, lu_members, _, rfl, it, _, _, _, rfl, rfl, SqL.of hI, atI_nat (map_at haj), aj, _, dxj, _, _, rfl, b1, T.cI, T.nIr, lu_row, ?_⟩
    refine ⟨_, rfl, l, _, dx, _, _, rfl, hl, T.cL, T.nLm, lu_measures, _, rfl, m, _, _, _, rfl, rfl, SqL.of hM, atI_nat (map_at ham), ?_⟩
    -- behind
    refine ⟨_, rfl, _, rfl, _, rfl, rj, _, _, _, rfl, rfl, SqL.of b3, atI_nat (map_at gb), _, rfl, _, rfl, ri, _, _, _, rfl, rfl, SqL.of a3, atI_nat (map_at gi), am, sh.ms[mn], _, _, rfl, hmm, ?_⟩
    -- same_but_at
    refine ⟨_, rfl, _, rfl, _, rfl, ri, rj, _, _, mn, rfl, a3, b3, by omega, fun H' sm => ⟨_, rfl, ?_⟩⟩
    have hq := q H' sm
    unfold gainA at hq
    rw [valsOf_at (List.getElem?_eq_getElem hi), valsOf_at (List.getElem?_eq_getElem hb), getD_of gi, getD_of gb, List.getElem?_eq_getElem hm] at hq
    cases hs : sameBut sh.items[i].vs sh.items[b].vs mn with
    | true =>
      simp only [hs, if_true] at hq
      exact iteT ⟨_, rfl, hq⟩
    | false =>
      simp only [hs, Bool.false_eq_true, if_false] at hq
      exact iteF ⟨_, rfl, _, _, rfl, rfl, hq⟩
def gainN (s : Vaskya.Sheet) (i m : Nat) : Int := maxD 0 ((beatersN s i).map fun b => gainA s i b m)
def spGainOf (A : Ad) : Sp := fun vs H Q _ => ∃ (l : Addr) (s : Vaskya.Sheet) (i m : Nat), vs = [.ref l, nV i, nV m] ∧ SheetAt A H l s ∧ Good s ∧ i < s.items.length ∧ m < s.ms.length ∧
  ∀ H', Same H H' → Q (.int (gainN s i m)) H'
abbrev s_gain_of : Stmt := top 16
theorem sc_gain_of : FnScope ["listing", "number", "measure_number", "gains", "beater"] ["listing", "number", "measure_number"] (defScope s_gain_of) := ⟨rfl, rfl, rfl, by decide +kernel, rfl, by decide +kernel, by decide +kernel⟩
theorem c_gain_of (T : Txt K mg A) (c_beaters_of : Ca P w K mg base CX0 5 "beaters_of" (spFil A beatersN)) (c_gain_against : Ca P w K mg base CX0 2 "gain_against" (spGainAg A)) (D : Dn K mg "gain_of" s_gain_of ["listing", "number", "measure_number"]) : Ca P w K mg base CX0 6 "gain_of" (spGainOf A) := by
  have sc := sc_gain_of
  refine D.ca sc (fun vs H Q E h => ?_) (fun f cdv Ar outer s H vs Q E hr h => ?_)
  · obtain ⟨l, s, i, m, rfl, _⟩ := h
    rfl
  · obtain ⟨l, sh, i, m, rfl, hS, g, hi, hm, q⟩ := h
    refine ⟨_, (pss_cons (ps_setLc (i := 3) (own := [("beater", 4)]) (g := gName 4) rfl sc.nd rfl rfl (sw_true rfl rfl rfl (by decide +kernel)) (pi_list (pe_ca c_beaters_of hr (pa_cons (pv 0) (pa_cons (pv 1) pa_nil)))) (blkOk_by (own := [("beater", 4)]) (N := ["listing", "number", "measure_number", "gains", "beater"]) (sc := defScope s_gain_of) (by decide +kernel)) (fun _ _ _ _ _ => pg_name (i := 4) sc.nd rfl (Or.inl rfl)) (fun _ _ _ _ _ => pts_nil) (fun _ _ _ _ _ => (pe_ca c_gain_against hr (pa_cons (pv 0) (pa_cons (pv 1) (pa_cons (pv 4) (pa_cons (pv 2) pa_nil)))))))
      (pss_one (ps_ret (pe_callBK (cr_maxDef rfl hr) (by rfl) T.max (by decide +kernel) (pa_cons (pv 3) pa_nil) (pk_cons pe_int pk_nil))))), ?_⟩
    refine ⟨_, rfl, _, rfl, l, sh, i, rfl, hS, g, hi, fun H1 p s1 np hp => ?_⟩
    have hb : ∀ b ∈ beatersN sh i, b < sh.items.length := fun b z => mem_range (List.mem_filter.mp z).1
    have h16 : (beatersN sh i).length ≤ 16 := fil_len _ g
    refine ⟨p, rfl, ⟨_, SqL.of hp⟩, fun D nD => lc_list (K := K) (a := p) (xs := (beatersN sh i).map nV) (fun k H' => Same H1 H' ∧ H' D = some (.lst ((((beatersN sh i).take k).map fun b => gainA sh i b m).map V.int)))
      ⟨same_put (fun _ _ e => e) nD, upd_same⟩ (fun k H' _ ⟨sm, _⟩ => SqL.of (sm _ _ hp)) ?_ ?_⟩
    · rintro k y H' hy ⟨sm, hD⟩
      obtain ⟨b, hbk, rfl⟩ := map_get hy
      refine ⟨rfl, @iteT _ (Same H1 H' ∧ H' D = some (.lst ((((beatersN sh i).take (k + 1)).map fun b => gainA sh i b m).map V.int))) ?_⟩
      refine ⟨_, rfl, _, rfl, _, rfl, _, rfl, l, sh, i, b, m, rfl, hS.mono (Same.trans s1 sm), g, hi, hb b (List.mem_of_getElem? hbk), hm, fun H2 s2 => ?_⟩
      refine ⟨_, s2 _ _ hD, ?_, same_put (Same.trans sm s2) nD, ?_⟩
      · rw [List.length_map, List.length_map]
        exact small1000 (Nat.le_trans (List.length_take_le' _ _) (by omega))
      · rw [upd_same, take_snoc hbk, List.map_append, List.map_append]
        rfl
    · rintro H' ⟨sm, hD⟩
      rw [List.length_map, List.take_length] at hD
      exact ⟨_, rfl, D, _, 0, rfl, rfl, SqL.of hD, q H' (Same.trans s1 sm)⟩
end
end Ub
namespace Ub
open VaskyBase
theorem joined_snoc (sep : Bytes) : ∀ (l : List Bytes) (x : Bytes), l ≠ [] → joined sep (l ++ [x]) = joined sep l ++ sep ++ x
  | [], _, h => absurd rfl h
  | [a], x, _ => rfl
  | a :: b :: r, x, _ => by
    have ih := joined_snoc sep (b :: r) x (by simp)
    show a ++ sep ++ joined sep ((b :: r) ++ [x]) = a ++ sep ++ joined sep (b :: r) ++ sep ++ x
    rw [ih]
    simp [List.append_assoc]
theorem joined_len (sep : Bytes) {k : Nat} : ∀ (l : List Bytes), (∀ b ∈ l, b.length + sep.length ≤ k) → (joined sep l).length ≤ k * l.length
  | [], _ => Nat.zero_le _
  | [a], h => by
    have := h a List.mem_cons_self
    show a.length ≤ k * 1
    omega
  | a :: b :: r, h => by
    have ih := joined_len sep (b :: r) fun c hc => h c (List.mem_cons_of_mem _ hc)
    have h1 := h a List.mem_cons_self
    show (a ++ sep ++ joined sep (b :: r)).length ≤ k * (r.length + 1 + 1)
    rw [List.length_append, List.length_append]
    rw [List.length_cons] at ih
    rw [Nat.mul_succ]
    omega
end Ub
namespace Ub
open PySem PySem.Spec PyProof.Rows L2
open VaskyBase (Bytes word)
/-! ### numbers shown -/
theorem bV_ofNat {n : Nat} (h : n < 256) : bV (UInt8.ofNat n) = nV n := by
  unfold bV nV
  rw [UInt8.toNat_ofNat']
  congr 2
  exact Nat.mod_eq_of_lt h
theorem shown_nat (n : Nat) : ((Nat.toDigits 10 n).map Char.toNat).map nV = (VaskyBase.showNat n).map bV := by
  unfold VaskyBase.showNat
  rw [List.map_map, List.map_map]
  refine List.map_congr_left fun c hc => ?_
  have h1 := Nat.isDigit_of_mem_toDigits (by decide) (by decide) hc
  have h2 : c.toNat < 256 := by
    rw [Char.isDigit_iff_toNat] at h1
    have := h1.2
    have e : '9'.toNat = 57 := rfl
    omega
  exact (bV_ofNat h2).symm
theorem cps_of (s : String) : (Str.ofString s).cps.toList = s.toList.map Char.toNat := by
  rw [Str.ofString_eq_toList]
theorem shown_int : ∀ (i : Int), (Str.ofString (toString i)).cps.toList.map nV = (VaskyBase.showInt i).map bV
  | .ofNat n => by
    rw [cps_of]
    show ((Nat.repr n).toList.map Char.toNat).map nV = _
    rw [Nat.toList_repr, shown_nat]
    unfold VaskyBase.showInt
    rw [if_neg (by simp)]
    rfl
  | .negSucc n => by
    rw [cps_of]
    show (("-" ++ Nat.repr (n + 1)).toList.map Char.toNat).map nV = _
    rw [String.toList_append, List.map_append, List.map_append, Nat.toList_repr, shown_nat]
    unfold VaskyBase.showInt
    rw [if_pos (Int.negSucc_lt_zero n)]
    rfl
theorem showInt_len {i : Int} (h1 : -1000 ≤ i) (h2 : i ≤ 1000) : (VaskyBase.showInt i).length ≤ 5 := by
  have h3 : (VaskyBase.showNat i.natAbs).length ≤ 4 := by
    unfold VaskyBase.showNat
    rw [List.length_map]
    refine (Nat.length_toDigits_le_iff (by decide) (by decide)).mpr ?_
    omega
  unfold VaskyBase.showInt
  split
  · rw [List.length_cons]; omega
  · omega
section
variable {P : Program} {w : World} {K : PySem.W.Frag} {mg : Str → Option Value} {base : Heap} {A : Ad}
/-! ### bytes_of -/
def spBytesOf : Sp := fun vs H Q _ => ∃ (z : Str), vs = [.str z] ∧ z.cps.size ≤ 1000 ∧ ∀ H' D, Same H H' → H D = none → H' D = some (.lst (z.cps.toList.map nV)) → Q (.ref D) H'
abbrev s_bytes_of : Stmt := top 28
theorem sc_bytes_of : FnScope ["text", "sign"] ["text"] (defScope s_bytes_of) := ⟨rfl, rfl, rfl, by decide +kernel, rfl, by decide +kernel, by decide +kernel⟩
theorem c_bytes_of (T : Txt K mg A) (D : Dn K mg "bytes_of" s_bytes_of ["text"]) : Ca P w K mg base CX0 1 "bytes_of" spBytesOf := by
  have sc := sc_bytes_of
  refine D.ca sc (fun vs H Q E h => ?_) (fun f cdv Ar outer s H vs Q E hr h => ?_)
  · obtain ⟨z, rfl, _⟩ := h
    rfl
  · obtain ⟨z, rfl, hz, q⟩ := h
    refine ⟨_, (pss_one (ps_ret (pe_lc (own := [("sign", 1)]) (g := gName 1) rfl sc.nd (pi_str (pv 0)) (blkOk_by (own := [("sign", 1)]) (N := ["text", "sign"]) (sc := defScope s_bytes_of) (by decide +kernel)) (fun _ _ _ _ _ => pg_name (i := 1) sc.nd rfl (Or.inl rfl)) (fun _ _ _ _ _ => pts_nil) (fun _ _ _ _ _ => (pe_callB call_ord (by rfl) T.ord (by decide +kernel) (pa_cons (pv 1) pa_nil)))))), ?_⟩
    refine ⟨_, rfl, z, rfl, fun D nD => lc_it (walk_str (z := z)) (fun k H' => Same H H' ∧ H' D = some (.lst ((z.cps.toList.take k).map nV)))
      ⟨same_put (fun _ _ e => e) nD, upd_same⟩ (fun _ _ _ _ => trivial) ?_ ?_⟩
    · rintro k y H' H2 hk ⟨sm, hD⟩ ⟨rfl, c, hc, rfl⟩
      have hc' : z.cps.toList[k]? = some c := by rw [Array.getElem?_toList]; exact hc
      refine ⟨rfl, @iteT _ (Same H H2 ∧ H2 D = some (.lst ((z.cps.toList.take (k + 1)).map nV))) ?_⟩
      refine ⟨_, rfl, _, rfl, rfl, ?_⟩
      refine ⟨_, hD, ?_, same_put sm nD, ?_⟩
      · rw [List.length_map]
        refine small1000 (Nat.le_trans (List.length_take_le' _ _) ?_)
        rw [Array.length_toList]
        exact hz
      · rw [upd_same, take_snoc hc', List.map_append]
        rfl
    · rintro H' ⟨sm, hD⟩
      rw [← Array.length_toList, List.take_length] at hD
      exact q H' D sm nD hD
/-! ### with_commas -/
def BsAt (H : Hp) (p : Addr) (bs : List Bytes) : Prop := ∃ as : List Addr, H p = some (.lst (as.map V.ref)) ∧ All2 (fun a (b : Bytes) => H a = some (.lst (b.map bV))) as bs
def spCommas : Sp := fun vs H Q _ => ∃ (p : Addr) (bs : List Bytes), vs = [.ref p] ∧ BsAt H p bs ∧ bs ≠ [] ∧ bs.length ≤ 16 ∧ (∀ b ∈ bs, b.length ≤ 62) ∧
  ∀ H' D, Same H H' → H D = none → H' D = some (.lst ((Vaskya.commas bs).map bV)) → Q (.ref D) H'
theorem comma_str : (", " : Str).cps.toList.map nV = (word ", ").map bV := by decide +kernel
theorem cut_tail (xs : List V) : cutV xs (some 1) none = xs.drop 1 := by
  unfold cutV
  rw [show HT.sIx xs.length 0 (some 1) = min 1 xs.length from HT.sIx_nat xs.length 0 1, HT.sIx_none]
  cases xs with
  | nil => rfl
  | cons x r =>
    rw [show min 1 (x :: r).length = 1 by
      rw [List.length_cons]
      omega]
    show (List.take ((x :: r).length - 1) r) = r
    rw [List.length_cons, Nat.add_sub_cancel]
    exact List.take_length
abbrev s_with_commas : Stmt := top 57
theorem sc_with_commas : FnScope ["parts", "joined", "part"] ["parts"] (defScope s_with_commas) := ⟨rfl, rfl, rfl, by decide +kernel, rfl, by decide +kernel, by decide +kernel⟩
theorem c_with_commas (T : Txt K mg A) (c_bytes_of : Ca P w K mg base CX0 1 "bytes_of" spBytesOf) (D : Dn K mg "with_commas" s_with_commas ["parts"]) : Ca P w K mg base CX0 2 "with_commas" spCommas := by
  have sc := sc_with_commas
  refine D.ca sc (fun vs H Q E h => ?_) (fun f cdv Ar outer s H vs Q E hr h => ?_)
  · obtain ⟨p, bs, rfl, _⟩ := h
    rfl
  · obtain ⟨p, bs, rfl, ⟨as, hp, hA⟩, hne, h16, h62, q⟩ := h
    refine ⟨_, (pss_cons (ps_set (i := 1) sc.nd rfl (Or.inl rfl) (pe_callTy call_list_of (by rfl) T.list (by decide +kernel) (pa_cons (pe_ix ix_list (pv 0) pe_int (fun _ _ => rfl)) pa_nil)))
      (pss_cons (ps_for PassesOwn.never rfl (pi_list (pe_slice sl_list (pv 0) (po_some pe_int) po_none)) (pg_name (i := 2) sc.nd rfl (Or.inl rfl)) (pss_cons (ps_expr (pe_bm PySem.F.plainAttrs_list PySem.F.slot_list_extend PySem.F.type_list_extend mt_extend (pv 1) (pa_cons (pe_ca c_bytes_of hr (pa_cons pe_str pa_nil)) pa_nil)))
      (pss_one (ps_expr (pe_bm PySem.F.plainAttrs_list PySem.F.slot_list_extend PySem.F.type_list_extend mt_extend (pv 1) (pa_cons (pv 2) pa_nil))))))
      (pss_one (ps_ret (pv 1))))), ?_⟩
    obtain ⟨b0, hb0⟩ : ∃ b0, bs[0]? = some b0 := ⟨_, List.getElem?_eq_getElem (List.length_pos_iff.mpr hne)⟩
    obtain ⟨a0, ha0, h0⟩ := hA.get hb0
    -- joined = list(parts[0])
    refine ⟨_, rfl, p, _, _, _, rfl, rfl, SqL.of hp, atI_nat (j := 0) (map_at ha0), a0, _, rfl, .inl (SqL.of h0), fun J nJ => ?_⟩
    have s1 : Same H (upd H J (.lst (b0.map bV))) := same_new nJ
    -- parts[1:]
    refine ⟨_, rfl, 1, rfl, p, _, rfl, SqL.of (s1 _ _ hp), fun t nt => ?_⟩
    have s2 : Same (upd H J (.lst (b0.map bV))) (upd (upd H J (.lst (b0.map bV))) t (.lst (cutV (as.map V.ref) (some 1) none))) := same_new nt
    have nJt : J ≠ t := fun z => by
      rw [← z, upd_same] at nt
      cases nt
    rw [cut_tail]
    have et : (upd (upd H J (.lst (b0.map bV))) t (.lst ((as.map V.ref).drop 1))) t = some (.lst ((as.map V.ref).drop 1)) := upd_same
    have s12 : Same H (upd (upd H J (.lst (b0.map bV))) t (.lst ((as.map V.ref).drop 1))) := Same.trans s1 (same_new nt)
    have nH : H t = none := s1.free nt
    have bound : ∀ k, (Vaskya.commas (bs.take k)).length ≤ 64 * 16 := fun k => by
      refine Nat.le_trans (joined_len (word ", ") (k := 64) (bs.take k) fun b hb => ?_) (Nat.mul_le_mul_left 64 (Nat.le_trans (List.length_take_le' _ _) h16))
      have := h62 b (List.mem_of_mem_take hb)
      have e : (word ", ").length = 2 := by decide +kernel
      omega
    refine ⟨t, rfl, ⟨_, SqL.of et⟩, for_list (K := K) (a := t) (xs := (as.map V.ref).drop 1) (fun k σ H' => ∃ v, σ = [some (.ref p), some (.ref J), v] ∧ Same H H' ∧ H' t = some (.lst ((as.map V.ref).drop 1)) ∧ H' J = some (.lst ((Vaskya.commas (bs.take (k + 1))).map bV)))
      ⟨none, rfl, s12, et, ?_⟩ (fun k σ H' _ ⟨_, _, _, ht, _⟩ => SqL.of ht) ?_ ?_⟩
    · rw [upd_ne nJt, upd_same, take_snoc hb0]
      rfl
    · rintro k y σ H' hy ⟨v, rfl, sm, ht, hJ⟩
      rw [List.getElem?_drop] at hy
      obtain ⟨a, ha, rfl⟩ := map_get hy
      obtain ⟨b, hb, hab⟩ := hA.getA ha
      -- joined.extend(bytes_of(", "))
      refine ⟨_, rfl, .inl ⟨rfl, _, SqL.of hJ⟩, _, rfl, by decide, fun H2 c s3 nc hc => ?_⟩
      have hJ2 := s3 _ _ hJ
      have nJc : J ≠ c := ne_of_none hJ nc
      rw [comma_str] at hc
      refine ⟨J, c, _, _, rfl, rfl, hJ2, hc, ?_, ?_⟩
      · rw [List.length_map, List.length_map, sizeLine_eq]
        have := bound (k + 1)
        have e : (word ", ").length = 2 := by decide +kernel
        omega
      have sm2 := Same.trans sm s3
      have naJ : a ≠ J := ne_of_none hab nJ
      have ntJ : t ≠ J := nJt.symm
      -- joined.extend(part)
      refine ⟨_, rfl, .inl ⟨rfl, _, SqL.of upd_same⟩, _, rfl, J, a, _, _, rfl, rfl, upd_same, by rw [upd_ne naJ]; exact sm2 _ _ hab, ?_, ?_⟩
      · rw [List.length_append, List.length_map, List.length_map, List.length_map, sizeLine_eq]
        have := bound (k + 1)
        have e : (word ", ").length = 2 := by decide +kernel
        have := h62 b (List.mem_of_getElem? hb)
        omega
      · refine ⟨_, rfl, same_put (same_put sm2 nJ) nJ, ?_, ?_⟩
        · rw [upd_ne ntJ, upd_ne ntJ]
          exact s3 _ _ ht
        · rw [upd_same, show k + 1 + 1 = (1 + k) + 1 by omega, take_snoc hb]
          unfold Vaskya.commas
          rw [joined_snoc _ _ _ (by
            intro e
            have := congrArg List.length e
            have h3 := (List.getElem?_eq_some_iff.mp hb).1
            rw [List.length_take, Nat.min_eq_left (by omega), List.length_nil] at this
            omega), List.map_append, List.map_append, Nat.add_comm 1 k]
    · rintro σ H' ⟨v, rfl, sm, ht, hJ⟩
      have e : bs.take (((as.map V.ref).drop 1).length + 1) = bs := List.take_of_length_le (by
        rw [List.length_drop, List.length_map, hA.1]
        have := List.length_pos_iff.mpr hne
        omega)
      rw [e] at hJ
      exact ⟨_, rfl, q H' J sm nJ hJ⟩
end
end Ub
namespace Ub
open PySem PySem.Spec PyProof.Rows L2
open VaskyBase (Bytes word)
section
variable {P : Program} {w : World} {K : PySem.W.Frag} {mg : Str → Option Value} {base : Heap} {A : Ad}
theorem up_str : (" up" : Str).cps.toList.map nV = (word " up").map bV := by decide +kernel
theorem down_str : (" down" : Str).cps.toList.map nV = (word " down").map bV := by decide +kernel
theorem meas_str : ("measures " : Str).cps.toList.map nV = (word "measures ").map bV := by decide +kernel
theorem item_str : ("item " : Str).cps.toList.map nV = (word "item ").map bV := by decide +kernel
theorem colon_str : (" : " : Str).cps.toList.map nV = (word " : ").map bV := by decide +kernel
theorem end_str : (" ;\n" : Str).cps.toList.map nV = (word " ;" ++ [10]).map bV := by decide +kernel
theorem wl_up : (word " up").length = 3 := by decide +kernel
theorem wl_down : (word " down").length = 5 := by decide +kernel
theorem wl_meas : (word "measures ").length = 9 := by decide +kernel
theorem wl_item : (word "item ").length = 5 := by decide +kernel
theorem wl_colon : (word " : ").length = 3 := by decide +kernel
theorem wl_end : (word " ;" ++ [10]).length = 3 := by decide +kernel
theorem wl_comma : (word ", ").length = 2 := by decide +kernel
theorem big_ok {n : Nat} (h : n ≤ 100000) : n ≤ sizeLine := by rw [sizeLine_eq]; omega
/-- a new list of bytes -/
def spNewB (pre : List V → Hp → Prop) (f : List V → Bytes) : Sp := fun vs H Q _ => pre vs H ∧ ∀ H' D, Same H H' → H D = none → H' D = some (.lst ((f vs).map bV)) → Q (.ref D) H'
def spMeasPart (A : Ad) : Sp := fun vs H Q _ => ∃ (a : Addr) (m : Vaskya.Measure), vs = [.ref a] ∧ MeasAt A H a m ∧ m.name.length ≤ 16 ∧ ∀ H' D, Same H H' → H D = none → H' D = some (.lst ((Vaskya.showMeasure m).map bV)) → Q (.ref D) H'
abbrev s_measure_part : Stmt := top 58
theorem sc_measure_part : FnScope ["measure"] ["measure"] (defScope s_measure_part) := ⟨rfl, rfl, rfl, by decide +kernel, rfl, by decide +kernel, by decide +kernel⟩
theorem c_measure_part (T : Txt K mg A) (c_bytes_of : Ca P w K mg base CX0 1 "bytes_of" spBytesOf) (D : Dn K mg "measure_part" s_measure_part ["measure"]) : Ca P w K mg base CX0 2 "measure_part" (spMeasPart A) := by
  have sc := sc_measure_part
  refine D.ca sc (fun vs H Q E h => ?_) (fun f cdv Ar outer s H vs Q E hr h => ?_)
  · obtain ⟨a, m, rfl, _⟩ := h
    rfl
  · obtain ⟨a, m, rfl, ⟨dx, n, h1, h2⟩, h16, q⟩ := h
    refine ⟨_, (pss_cons (ps_if (pt_val (pe_fld (pv 0) rfl)) (pss_one (ps_ret (pe_op op_cat (pe_fld (pv 0) rfl) (pe_ca c_bytes_of hr (pa_cons pe_str pa_nil))))) pss_nil)
      (pss_one (ps_ret (pe_op op_cat (pe_fld (pv 0) rfl) (pe_ca c_bytes_of hr (pa_cons pe_str pa_nil)))))), ?_⟩
    refine ⟨_, rfl, a, _, dx, _, _, rfl, h1, T.cM, T.nMu, lu_up, _, rfl, ?_⟩
    unfold Vaskya.showMeasure at q
    cases hu : m.up with
    | true =>
      rw [hu, if_pos rfl] at q
      refine iteT ⟨_, rfl, a, _, dx, _, _, rfl, h1, T.cM, T.nMn, lu_name, _, rfl, by decide, fun H2 c s2 nc hc => ?_⟩
      rw [up_str] at hc
      refine ⟨n, c, _, _, rfl, rfl, s2 _ _ h2, hc, ?_, fun D nD => ?_⟩
      · rw [List.length_map, List.length_map, wl_up]
        exact big_ok (by omega)
      · refine q _ D (same_put s2 (s2.free nD)) (s2.free nD) ?_
        rw [upd_same, List.map_append]
    | false =>
      rw [hu, if_neg Bool.false_ne_true] at q
      refine iteF ⟨_, rfl, a, _, dx, _, _, rfl, h1, T.cM, T.nMn, lu_name, _, rfl, by decide, fun H2 c s2 nc hc => ?_⟩
      rw [down_str] at hc
      refine ⟨n, c, _, _, rfl, rfl, s2 _ _ h2, hc, ?_, fun D nD => ?_⟩
      · rw [List.length_map, List.length_map, wl_down]
        exact big_ok (by omega)
      · refine q _ D (same_put s2 (s2.free nD)) (s2.free nD) ?_
        rw [upd_same, List.map_append]
def lineM (ms : List Vaskya.Measure) : Bytes := word "measures " ++ Vaskya.commas (ms.map Vaskya.showMeasure) ++ (word " ;" ++ [10])
theorem showMeas_len {m : Vaskya.Measure} (h : m.name.length ≤ 16) : (Vaskya.showMeasure m).length ≤ 21 := by
  unfold Vaskya.showMeasure
  rw [List.length_append]
  cases m.up
  · rw [if_neg Bool.false_ne_true, wl_down]; omega
  · rw [if_pos rfl, wl_up]; omega
theorem commas_len {bs : List Bytes} {k n : Nat} (hb : ∀ b ∈ bs, b.length + 2 ≤ k) (hn : bs.length ≤ n) : (Vaskya.commas bs).length ≤ k * n := by
  refine Nat.le_trans (joined_len (word ", ") (k := k) bs fun b h => ?_) (Nat.mul_le_mul_left k hn)
  rw [wl_comma]
  exact hb b h
def spMeasLine (A : Ad) : Sp := fun vs H Q _ => ∃ (p : Addr) (ms : List Vaskya.Measure), vs = [.ref p] ∧ MsAt A H p ms ∧ 1 ≤ ms.length ∧ ms.length ≤ 4 ∧ (∀ m ∈ ms, m.name.length ≤ 16) ∧ ∀ H' D, Same H H' → H D = none → H' D = some (.lst ((lineM ms).map bV)) → Q (.ref D) H'
abbrev s_measures_line : Stmt := top 59
theorem sc_measures_line : FnScope ["measures", "parts", "measure"] ["measures"] (defScope s_measures_line) := ⟨rfl, rfl, rfl, by decide +kernel, rfl, by decide +kernel, by decide +kernel⟩
theorem c_measures_line (T : Txt K mg A) (c_bytes_of : Ca P w K mg base CX0 1 "bytes_of" spBytesOf) (c_with_commas : Ca P w K mg base CX0 2 "with_commas" spCommas) (c_measure_part : Ca P w K mg base CX0 2 "measure_part" (spMeasPart A))
    (D : Dn K mg "measures_line" s_measures_line ["measures"]) : Ca P w K mg base CX0 3 "measures_line" (spMeasLine A) := by
  have sc := sc_measures_line
  refine D.ca sc (fun vs H Q E h => ?_) (fun f cdv Ar outer s H vs Q E hr h => ?_)
  · obtain ⟨p, ms, rfl, _⟩ := h
    rfl
  · obtain ⟨p, ms, rfl, ⟨as, hp, hA⟩, h1, h4, hN, q⟩ := h
    refine ⟨_, (pss_cons (ps_setLc (i := 1) (own := [("measure", 2)]) (g := gName 2) rfl sc.nd rfl rfl (sw_true rfl rfl rfl (by decide +kernel)) (pi_list (pv 0)) (blkOk_by (own := [("measure", 2)]) (N := ["measures", "parts", "measure"]) (sc := defScope s_measures_line) (by decide +kernel)) (fun _ _ _ _ _ => pg_name (i := 2) sc.nd rfl (Or.inl rfl)) (fun _ _ _ _ _ => pts_nil) (fun _ _ _ _ _ => (pe_ca c_measure_part hr (pa_cons (pv 2) pa_nil))))
      (pss_one (ps_ret (pe_op op_cat (pe_op op_cat (pe_ca c_bytes_of hr (pa_cons pe_str pa_nil)) (pe_ca c_with_commas hr (pa_cons (pv 1) pa_nil))) (pe_ca c_bytes_of hr (pa_cons pe_str pa_nil)))))), ?_⟩
    -- parts
    refine ⟨_, rfl, p, rfl, ⟨_, SqL.of hp⟩, ?_⟩
    intro D nD
    refine lc_list (K := K) (a := p) (xs := as.map V.ref) (fun k H' => Same H H' ∧ ∃ ps : List Addr, H' D = some (.lst (ps.map V.ref)) ∧ All2 (fun a (b : Bytes) => a ≠ D ∧ H' a = some (.lst (b.map bV))) ps ((ms.take k).map Vaskya.showMeasure))
      ⟨same_put (fun _ _ e => e) nD, [], upd_same, All2.nil⟩ (fun k H' _ ⟨sm, _⟩ => SqL.of (sm _ _ hp)) ?_ ?_
    · rintro k y H' hy ⟨sm, ps, hD, hP⟩
      obtain ⟨a, ha, rfl⟩ := map_get hy
      obtain ⟨m, hm, hma⟩ := hA.getA ha
      refine ⟨rfl, @iteT _ (Same H H' ∧ ∃ ps : List Addr, H' D = some (.lst (ps.map V.ref)) ∧ All2 (fun a (b : Bytes) => a ≠ D ∧ H' a = some (.lst (b.map bV))) ps ((ms.take (k + 1)).map Vaskya.showMeasure)) ?_⟩
      refine ⟨_, rfl, a, m, rfl, hma.mono sm, hN m (List.mem_of_getElem? hm), fun H2 c s2 nc hc => ?_⟩
      have ncD : c ≠ D := (ne_of_none hD nc).symm
      refine ⟨_, s2 _ _ hD, ?_, same_put (Same.trans sm s2) nD, ps ++ [c], ?_, ?_⟩
      · rw [List.length_map, hP.1, List.length_map]
        exact small1000 (Nat.le_trans (List.length_take_le' _ _) (by omega))
      · rw [upd_same, List.map_append]
        rfl
      · rw [take_snoc hm, List.map_append]
        refine All2.snoc (hP.mono fun b x z => ⟨z.1, by rw [upd_ne z.1]; exact s2 _ _ z.2⟩) ⟨ncD, by rw [upd_ne ncD]; exact hc⟩
    · rintro H1 ⟨sm, ps, hD, hP⟩
      have e : ms.take (as.map V.ref).length = ms := List.take_of_length_le (by rw [List.length_map, hA.1]; exact Nat.le_refl _)
      rw [e] at hP
      have hl21 : ∀ b ∈ ms.map Vaskya.showMeasure, b.length ≤ 21 := fun b hb => by
        obtain ⟨m, hm, rfl⟩ := List.mem_map.mp hb
        exact showMeas_len (hN m hm)
      have hcl : (Vaskya.commas (ms.map Vaskya.showMeasure)).length ≤ 23 * 4 := commas_len (fun b hb => by have := hl21 b hb; omega) (by rw [List.length_map]; exact h4)
      -- bytes_of("measures ") + with_commas(parts)
      refine ⟨_, rfl, by decide, fun H2 c s2 nc hc => ?_⟩
      rw [meas_str] at hc
      refine ⟨_, rfl, D, ms.map Vaskya.showMeasure, rfl, ⟨ps, s2 _ _ hD, hP.mono fun b x z => s2 _ _ z.2⟩, ?_, by rw [List.length_map]; omega, fun b hb => by have := hl21 b hb; omega, fun H3 d s3 nd hd => ?_⟩
      · intro z
        have := congrArg List.length z
        rw [List.length_map, List.length_nil] at this
        omega
      refine ⟨c, d, _, _, rfl, rfl, s3 _ _ hc, hd, ?_, fun x nx => ?_⟩
      · rw [List.length_map, List.length_map, wl_meas]
        exact big_ok (by omega)
      have s4 : Same H3 (upd H3 x (.lst ((word "measures ").map bV ++ (Vaskya.commas (ms.map Vaskya.showMeasure)).map bV))) := same_new nx
      -- + bytes_of(" ;\n")
      refine ⟨_, rfl, by decide, fun H5 e5 s5 ne5 he5 => ?_⟩
      rw [end_str] at he5
      refine ⟨x, e5, _, _, rfl, rfl, s5 _ _ upd_same, he5, ?_, fun y ny => ?_⟩
      · rw [List.length_append, List.length_map, List.length_map, List.length_map, wl_meas, wl_end]
        exact big_ok (by omega)
      have s05 : Same H H5 := Same.trans sm (Same.trans s2 (Same.trans s3 (Same.trans s4 s5)))
      refine q _ y (same_put s05 (s05.free ny)) (s05.free ny) ?_
      rw [upd_same]
      unfold lineM
      simp only [List.map_append, List.append_assoc]
def lineI (i : Vaskya.Item) : Bytes := word "item " ++ i.name ++ word " : " ++ Vaskya.commas (i.vs.map VaskyBase.showInt) ++ (word " ;" ++ [10])
def spItemLine (A : Ad) : Sp := fun vs H Q _ => ∃ (p : Addr) (i : Vaskya.Item), vs = [.ref p] ∧ ItemAt A H p i ∧ 1 ≤ i.vs.length ∧ i.vs.length ≤ 4 ∧ i.name.length ≤ 16 ∧ (∀ v ∈ i.vs, -1000 ≤ v ∧ v ≤ 1000) ∧ ∀ H' D, Same H H' → H D = none → H' D = some (.lst ((lineI i).map bV)) → Q (.ref D) H'
theorem small_log {v : Int} (h1 : -1000 ≤ v) (h2 : v ≤ 1000) : v.natAbs.log2 < 1920 := by
  have h3 : v.natAbs ≤ 1000 := by omega
  by_cases h : v.natAbs = 0
  · rw [h]; decide
  · have h4 : v.natAbs.log2 < 10 := (Nat.log2_lt h).mpr (by omega)
    omega
theorem intStr_size {v : Int} (h1 : -1000 ≤ v) (h2 : v ≤ 1000) : (Str.ofString (toString v)).cps.size ≤ 1000 := by
  have h3 := congrArg List.length (shown_int v)
  rw [List.length_map, List.length_map, Array.length_toList] at h3
  rw [h3]
  have := showInt_len h1 h2
  omega
abbrev s_item_line : Stmt := top 60
theorem sc_item_line : FnScope ["item", "parts", "value"] ["item"] (defScope s_item_line) := ⟨rfl, rfl, rfl, by decide +kernel, rfl, by decide +kernel, by decide +kernel⟩
theorem c_item_line (T : Txt K mg A) (c_bytes_of : Ca P w K mg base CX0 1 "bytes_of" spBytesOf) (c_with_commas : Ca P w K mg base CX0 2 "with_commas" spCommas)
    (D : Dn K mg "item_line" s_item_line ["item"]) : Ca P w K mg base CX0 3 "item_line" (spItemLine A) := by
  have sc := sc_item_line
  refine D.ca sc (fun vs H Q E h => ?_) (fun f cdv Ar outer s H vs Q E hr h => ?_)
  · obtain ⟨p, i, rfl, _⟩ := h
    rfl
  · obtain ⟨p, i, rfl, ⟨dx, n, r, a1, a2, a3⟩, h1, h4, h16, hv, q⟩ := h
    refine ⟨_, (pss_cons (ps_setLc (i := 1) (own := [("value", 2)]) (g := gName 2) rfl sc.nd rfl rfl (sw_true rfl rfl rfl (by decide +kernel)) (pi_list (pe_fld (pv 0) rfl)) (blkOk_by (own := [("value", 2)]) (N := ["item", "parts", "value"]) (sc := defScope s_item_line) (by decide +kernel)) (fun _ _ _ _ _ => pg_name (i := 2) sc.nd rfl (Or.inl rfl)) (fun _ _ _ _ _ => pts_nil) (fun _ _ _ _ _ => (pe_ca c_bytes_of hr (pa_cons (pe_callTy call_str_int (by rfl) T.str (by decide +kernel) (pa_cons (pv 2) pa_nil)) pa_nil))))
      (pss_one (ps_ret (pe_op op_cat (pe_op op_cat (pe_op op_cat (pe_op op_cat (pe_ca c_bytes_of hr (pa_cons pe_str pa_nil)) (pe_fld (pv 0) rfl)) (pe_ca c_bytes_of hr (pa_cons pe_str pa_nil))) (pe_ca c_with_commas hr (pa_cons (pv 1) pa_nil))) (pe_ca c_bytes_of hr (pa_cons pe_str pa_nil)))))), ?_⟩
    -- parts
    refine ⟨_, rfl, p, _, dx, _, _, rfl, a1, T.cI, T.nIr, lu_row, r, rfl, ⟨_, SqL.of a3⟩, ?_⟩
    intro D nD
    refine lc_list (K := K) (a := r) (xs := i.vs.map V.int) (fun k H' => Same H H' ∧ ∃ ps : List Addr, H' D = some (.lst (ps.map V.ref)) ∧ All2 (fun a (b : Bytes) => a ≠ D ∧ H' a = some (.lst (b.map bV))) ps ((i.vs.take k).map VaskyBase.showInt))
      ⟨same_put (fun _ _ e => e) nD, [], upd_same, All2.nil⟩ (fun k H' _ ⟨sm, _⟩ => SqL.of (sm _ _ a3)) ?_ ?_
    · rintro k y H' hy ⟨sm, ps, hD, hP⟩
      obtain ⟨v, hvk, rfl⟩ := map_get hy
      obtain ⟨v1, v2⟩ := hv v (List.mem_of_getElem? hvk)
      refine ⟨rfl, @iteT _ (Same H H' ∧ ∃ ps : List Addr, H' D = some (.lst (ps.map V.ref)) ∧ All2 (fun a (b : Bytes) => a ≠ D ∧ H' a = some (.lst (b.map bV))) ps ((i.vs.take (k + 1)).map VaskyBase.showInt)) ?_⟩
      refine ⟨_, rfl, v, rfl, small_log v1 v2, _, rfl, intStr_size v1 v2, fun H2 c s2 nc hc => ?_⟩
      rw [shown_int] at hc
      have ncD : c ≠ D := (ne_of_none hD nc).symm
      refine ⟨_, s2 _ _ hD, ?_, same_put (Same.trans sm s2) nD, ps ++ [c], ?_, ?_⟩
      · rw [List.length_map, hP.1, List.length_map]
        exact small1000 (Nat.le_trans (List.length_take_le' _ _) (by omega))
      · rw [upd_same, List.map_append]
        rfl
      · rw [take_snoc hvk, List.map_append]
        refine All2.snoc (hP.mono fun b x z => ⟨z.1, by rw [upd_ne z.1]; exact s2 _ _ z.2⟩) ⟨ncD, by rw [upd_ne ncD]; exact hc⟩
    · rintro H1 ⟨sm, ps, hD, hP⟩
      rw [List.length_map, List.take_length] at hP
      have hl5 : ∀ b ∈ i.vs.map VaskyBase.showInt, b.length ≤ 5 := fun b hb => by
        obtain ⟨v, hm, rfl⟩ := List.mem_map.mp hb
        exact showInt_len (hv v hm).1 (hv v hm).2
      have hcl : (Vaskya.commas (i.vs.map VaskyBase.showInt)).length ≤ 7 * 4 := commas_len (fun b hb => by have := hl5 b hb; omega) (by rw [List.length_map]; exact h4)
      -- bytes_of("item ") + item.name
      refine ⟨_, rfl, by decide, fun H2 c s2 nc hc => ?_⟩
      rw [item_str] at hc
      have s02 := Same.trans sm s2
      refine ⟨_, rfl, p, _, dx, _, _, rfl, s02 _ _ a1, T.cI, T.nIn, lu_name, c, n, _, _, rfl, rfl, hc, s02 _ _ a2, ?_, fun x nx => ?_⟩
      · rw [List.length_map, List.length_map, wl_item]
        exact big_ok (by omega)
      have s3 : Same H2 (upd H2 x (.lst ((word "item ").map bV ++ i.name.map bV))) := same_new nx
      -- + bytes_of(" : ")
      refine ⟨_, rfl, by decide, fun H4 d s4 nd hd => ?_⟩
      rw [colon_str] at hd
      refine ⟨x, d, _, _, rfl, rfl, s4 _ _ upd_same, hd, ?_, fun y ny => ?_⟩
      · rw [List.length_append, List.length_map, List.length_map, List.length_map, wl_item, wl_colon]
        exact big_ok (by omega)
      have s5 : Same H4 (upd H4 y (.lst ((word "item ").map bV ++ i.name.map bV ++ (word " : ").map bV))) := same_new ny
      have s25 := Same.trans s3 (Same.trans s4 s5)
      -- + with_commas(parts)
      refine ⟨_, rfl, D, i.vs.map VaskyBase.showInt, rfl, ⟨ps, s25 _ _ (s2 _ _ hD), hP.mono fun b x z => s25 _ _ (s2 _ _ z.2)⟩, ?_, by rw [List.length_map]; omega, fun b hb => by have := hl5 b hb; omega, fun H6 e6 s6 ne6 he6 => ?_⟩
      · intro z
        have := congrArg List.length z
        rw [List.length_map, List.length_nil] at this
        omega
      refine ⟨y, e6, _, _, rfl, rfl, s6 _ _ upd_same, he6, ?_, fun z nz => ?_⟩
      · rw [List.length_append, List.length_append, List.length_map, List.length_map, List.length_map, List.length_map, wl_item, wl_colon]
        exact big_ok (by omega)
      have s7 : Same H6 (upd H6 z (.lst ((word "item ").map bV ++ i.name.map bV ++ (word " : ").map bV ++ (Vaskya.commas (i.vs.map VaskyBase.showInt)).map bV))) := same_new nz
      -- + bytes_of(" ;\n")
      refine ⟨_, rfl, by decide, fun H8 e8 s8 ne8 he8 => ?_⟩
      rw [end_str] at he8
      refine ⟨z, e8, _, _, rfl, rfl, s8 _ _ upd_same, he8, ?_, fun v nv => ?_⟩
      · rw [List.length_append, List.length_append, List.length_append, List.length_map, List.length_map, List.length_map, List.length_map, List.length_map, wl_item, wl_colon, wl_end]
        exact big_ok (by omega)
      have s08 : Same H H8 := Same.trans s02 (Same.trans s25 (Same.trans s6 (Same.trans s7 s8)))
      refine q _ v (same_put s08 (s08.free nv)) (s08.free nv) ?_
      rw [upd_same]
      unfold lineI
      simp only [List.map_append, List.append_assoc]
/-! ### one_form -/
def formN (s : Vaskya.Sheet) : Bytes := lineM s.ms ++ (s.items.map lineI).flatten
def spForm (A : Ad) : Sp := fun vs H Q _ => ∃ (l : Addr) (s : Vaskya.Sheet), vs = [.ref l] ∧ SheetAt A H l s ∧ Good s ∧ ∀ H' D, Same H H' → H D = none → H' D = some (.lst ((formN s).map bV)) → Q (.ref D) H'
theorem lineM_len {s : Vaskya.Sheet} (g : Good s) : (lineM s.ms).length ≤ 200 := by
  have hcl : (Vaskya.commas (s.ms.map Vaskya.showMeasure)).length ≤ 23 * 4 := commas_len (fun b hb => by
    obtain ⟨m, hm, rfl⟩ := List.mem_map.mp hb
    have := showMeas_len (g.nmM m hm)
    omega) (by rw [List.length_map]; exact g.ms4)
  unfold lineM
  rw [List.length_append, List.length_append, wl_meas, wl_end]
  omega
theorem lineI_len {s : Vaskya.Sheet} (g : Good s) {i : Vaskya.Item} (hi : i ∈ s.items) : (lineI i).length ≤ 200 := by
  have hcl : (Vaskya.commas (i.vs.map VaskyBase.showInt)).length ≤ 7 * 4 := commas_len (fun b hb => by
    obtain ⟨v, hm, rfl⟩ := List.mem_map.mp hb
    have := showInt_len (g.val i hi v hm).1 (g.val i hi v hm).2
    omega) (by rw [List.length_map, g.wid i hi]; exact g.ms4)
  have := g.nmI i hi
  unfold lineI
  rw [List.length_append, List.length_append, List.length_append, List.length_append, wl_item, wl_colon, wl_end]
  omega
theorem flat_len : ∀ (l : List Bytes) {k : Nat}, (∀ b ∈ l, b.length ≤ k) → l.flatten.length ≤ k * l.length
  | [], _, _ => Nat.zero_le _
  | b :: r, k, h => by
    have ih := flat_len r fun c hc => h c (List.mem_cons_of_mem _ hc)
    have h1 := h b List.mem_cons_self
    rw [List.flatten_cons, List.length_append, List.length_cons, Nat.mul_succ]
    omega
abbrev s_one_form : Stmt := top 61
theorem sc_one_form : FnScope ["listing", "form", "item"] ["listing"] (defScope s_one_form) := ⟨rfl, rfl, rfl, by decide +kernel, rfl, by decide +kernel, by decide +kernel⟩
theorem c_one_form (T : Txt K mg A) (c_measures_line : Ca P w K mg base CX0 3 "measures_line" (spMeasLine A)) (c_item_line : Ca P w K mg base CX0 3 "item_line" (spItemLine A))
    (D : Dn K mg "one_form" s_one_form ["listing"]) : Ca P w K mg base CX0 4 "one_form" (spForm A) := by
  have sc := sc_one_form
  refine D.ca sc (fun vs H Q E h => ?_) (fun f cdv Ar outer s H vs Q E hr h => ?_)
  · obtain ⟨l, sh, rfl, _⟩ := h
    rfl
  · obtain ⟨l, sh, rfl, ⟨dx, m, it, hl, hM, as, hI, hA⟩, g, q⟩ := h
    refine ⟨_, (pss_cons (ps_set (i := 1) sc.nd rfl (Or.inl rfl) (pe_ca c_measures_line hr (pa_cons (pe_fld (pv 0) rfl) pa_nil)))
      (pss_cons (ps_for PassesOwn.never rfl (pi_list (pe_fld (pv 0) rfl)) (pg_name (i := 2) sc.nd rfl (Or.inl rfl)) (pss_one (ps_expr (pe_bm PySem.F.plainAttrs_list PySem.F.slot_list_extend PySem.F.type_list_extend mt_extend (pv 1) (pa_cons (pe_ca c_item_line hr (pa_cons (pv 2) pa_nil)) pa_nil)))))
      (pss_one (ps_ret (pv 1))))), ?_⟩
    refine ⟨_, rfl, l, _, dx, _, _, rfl, hl, T.cL, T.nLm, lu_measures, m, sh.ms, rfl, hM, g.ms1, g.ms4, g.nmM, fun H1 F s1 nF hF => ?_⟩
    refine ⟨_, rfl, l, _, dx, _, _, rfl, s1 _ _ hl, T.cL, T.nLi, lu_members, it, rfl, ⟨_, SqL.of (s1 _ _ hI)⟩, for_list (K := K) (a := it) (xs := as.map V.ref) (fun k σ H' => ∃ v, σ = [some (.ref l), some (.ref F), v] ∧ Same H H' ∧ H' F = some (.lst ((lineM sh.ms ++ ((sh.items.take k).map lineI).flatten).map bV)))
      ⟨none, rfl, s1, ?_⟩ (fun k σ H' _ ⟨_, _, sm, _⟩ => SqL.of (sm _ _ hI)) ?_ ?_⟩
    · rw [hF]
      simp
    · rintro k y σ H' hy ⟨v, rfl, sm, hF2⟩
      obtain ⟨a, ha, rfl⟩ := map_get hy
      obtain ⟨i, hi, hai⟩ := hA.getA ha
      have him := List.mem_of_getElem? hi
      refine ⟨_, rfl, .inl ⟨rfl, _, SqL.of hF2⟩, _, rfl, a, i, rfl, hai.mono sm, by rw [g.wid i him]; exact g.ms1, by rw [g.wid i him]; exact g.ms4, g.nmI i him, g.val i him, fun H2 c s2 nc hc => ?_⟩
      refine ⟨F, c, _, _, rfl, rfl, s2 _ _ hF2, hc, ?_, _, rfl, same_put (Same.trans sm s2) nF, ?_⟩
      · have h1 := lineM_len g
        have h2 := flat_len ((sh.items.take k).map lineI) (k := 200) fun b hb => by
          obtain ⟨j, hj, rfl⟩ := List.mem_map.mp hb
          exact lineI_len g (List.mem_of_mem_take hj)
        have h3 := lineI_len g him
        have h4 : ((sh.items.take k).map lineI).length ≤ 16 := by
          rw [List.length_map]
          exact Nat.le_trans (List.length_take_le' _ _) g.is16
        rw [List.length_map, List.length_map, List.length_append]
        refine big_ok ?_
        have h5 := Nat.mul_le_mul_left 200 h4
        omega
      · rw [upd_same, take_snoc hi]
        simp
    · rintro σ H' ⟨v, rfl, sm, hF2⟩
      rw [List.length_map, hA.1, List.take_length] at hF2
      exact ⟨_, rfl, q H' F sm nF hF2⟩
end
end Ub
/-! Plain mathematics of tokens: no Python here. -/
namespace Ub
open VaskyBase
def isLod (b : UInt8) : Bool := isLetter b || isDigit b
def notLf (b : UInt8) : Bool := b != 10
/-- blanks and remarks in front -/
def gapF : Nat → Bytes → Nat
  | 0, _ => 0
  | _ + 1, [] => 0
  | n + 1, b :: r => if isBlank b = true then 1 + gapF n r else if (b == 35) = true then 1 + (r.takeWhile notLf).length + gapF n (r.dropWhile notLf) else 0
def gap (l : Bytes) : Nat := gapF l.length l
theorem dropWhile_le (p : UInt8 → Bool) : ∀ l : Bytes, (l.dropWhile p).length ≤ l.length
  | [] => Nat.le_refl _
  | b :: r => by
    rw [List.dropWhile_cons]
    split
    · exact Nat.le_succ_of_le (dropWhile_le p r)
    · exact Nat.le_refl _
theorem takeWhile_add (p : UInt8 → Bool) : ∀ l : Bytes, (l.takeWhile p).length + (l.dropWhile p).length = l.length
  | [] => rfl
  | b :: r => by
    rw [List.dropWhile_cons, List.takeWhile_cons]
    have ih := takeWhile_add p r
    split
    · rw [List.length_cons, List.length_cons]; omega
    · simp
theorem drop_takeWhile (p : UInt8 → Bool) : ∀ l : Bytes, l.drop (l.takeWhile p).length = l.dropWhile p
  | [] => rfl
  | b :: r => by
    rw [List.dropWhile_cons, List.takeWhile_cons]
    split
    · rw [List.length_cons, List.drop_succ_cons]
      exact drop_takeWhile p r
    · rfl
theorem gapF_fuel : ∀ (n m : Nat) (l : Bytes), l.length ≤ n → l.length ≤ m → gapF n l = gapF m l
  | 0, 0, _, _, _ => rfl
  | 0, m + 1, l, h, _ => by
    have e : l = [] := List.length_eq_zero_iff.mp (by omega)
    subst e
    rfl
  | n + 1, 0, l, _, h => by
    have e : l = [] := List.length_eq_zero_iff.mp (by omega)
    subst e
    rfl
  | n + 1, m + 1, [], _, _ => rfl
  | n + 1, m + 1, b :: r, h1, h2 => by
    rw [List.length_cons] at h1 h2
    have h3 := dropWhile_le notLf r
    show (if isBlank b = true then 1 + gapF n r else if (b == 35) = true then _ + gapF n _ else 0) = (if isBlank b = true then 1 + gapF m r else if (b == 35) = true then _ + gapF m _ else 0)
    rw [gapF_fuel n m r (by omega) (by omega), gapF_fuel n m (r.dropWhile notLf) (by omega) (by omega)]
theorem gap_nil : gap [] = 0 := rfl
theorem gap_blank {b : UInt8} {r : Bytes} (h : isBlank b = true) : gap (b :: r) = 1 + gap r := by
  show (if isBlank b = true then 1 + gapF r.length r else _) = _
  rw [if_pos h]
  rfl
theorem gap_remark {b : UInt8} {r : Bytes} (h : isBlank b = false) (h2 : (b == 35) = true) : gap (b :: r) = 1 + (r.takeWhile notLf).length + gap (r.dropWhile notLf) := by
  show (if isBlank b = true then _ else if (b == 35) = true then 1 + (r.takeWhile notLf).length + gapF r.length (r.dropWhile notLf) else 0) = _
  rw [if_neg (by rw [h]; exact Bool.false_ne_true), if_pos h2, gapF_fuel r.length (r.dropWhile notLf).length _ (dropWhile_le _ _) (Nat.le_refl _)]
  rfl
theorem gap_none {b : UInt8} {r : Bytes} (h : isBlank b = false) (h2 : (b == 35) = false) : gap (b :: r) = 0 := by
  show (if isBlank b = true then _ else if (b == 35) = true then _ else 0) = _
  rw [if_neg (by rw [h]; exact Bool.false_ne_true), if_neg (by rw [h2]; exact Bool.false_ne_true)]
/-- how many bytes the token at the front has -/
def tokLen (l : Bytes) : Nat := match l with
  | [] => 0
  | b :: _ => if isLetter b = true then (l.takeWhile isLod).length else if isDigit b = true then (l.takeWhile isDigit).length else 1
theorem tokLen_pos {b : UInt8} {r : Bytes} : 1 ≤ tokLen (b :: r) := by
  unfold tokLen
  show 1 ≤ (if isLetter b = true then ((b :: r).takeWhile isLod).length else if isDigit b = true then ((b :: r).takeWhile isDigit).length else 1)
  by_cases h : isLetter b = true
  · rw [if_pos h, List.takeWhile_cons, if_pos (by unfold isLod; rw [h] <;> rfl)]
    simp
  · rw [if_neg h]
    by_cases h2 : isDigit b = true
    · rw [if_pos h2, List.takeWhile_cons, if_pos h2]
      simp
    · rw [if_neg h2]
      exact Nat.le_refl _
theorem takeWhile_le (p : UInt8 → Bool) (l : Bytes) : (l.takeWhile p).length ≤ l.length := by
  have := takeWhile_add p l
  omega
theorem tokLen_le : ∀ l : Bytes, tokLen l ≤ l.length
  | [] => Nat.le_refl _
  | b :: r => by
    unfold tokLen
    show (if isLetter b = true then ((b :: r).takeWhile isLod).length else if isDigit b = true then ((b :: r).takeWhile isDigit).length else 1) ≤ _
    split
    · exact takeWhile_le _ _
    · split
      · exact takeWhile_le _ _
      · rw [List.length_cons]; omega
theorem token_len {b : UInt8} {r : Bytes} {x : Tok × Nat} (h : token (b :: r) = some x) : x.2 = tokLen (b :: r) := by
  unfold token at h
  show x.2 = (if isLetter b = true then ((b :: r).takeWhile isLod).length else if isDigit b = true then ((b :: r).takeWhile isDigit).length else 1)
  have h' : (if isLetter b = true then (if NAME < ((b :: r).takeWhile isLod).length then none else some (Tok.name ((b :: r).takeWhile isLod), ((b :: r).takeWhile isLod).length))
    else if isDigit b = true then (numberOf ((b :: r).takeWhile isDigit)).map fun n => (Tok.num n, ((b :: r).takeWhile isDigit).length)
    else if SIGNS.contains b = true then some (Tok.sign b.toNat, 1) else none) = some x := h
  clear h
  by_cases h1 : isLetter b = true
  · rw [if_pos h1] at h' ⊢
    by_cases h3 : NAME < ((b :: r).takeWhile isLod).length
    · rw [if_pos h3] at h'
      cases h'
    · rw [if_neg h3] at h'
      rw [← Option.some.inj h']
  · rw [if_neg h1] at h' ⊢
    by_cases h2 : isDigit b = true
    · rw [if_pos h2] at h' ⊢
      obtain ⟨n, _, e⟩ := Option.map_eq_some_iff.mp h'
      rw [← e]
    · rw [if_neg h2] at h' ⊢
      by_cases h3 : SIGNS.contains b = true
      · rw [if_pos h3] at h'
        rw [← Option.some.inj h']
      · rw [if_neg h3] at h'
        cases h'
/-- lex with enough turns -/
def lexF (at_ : Nat) (l : Bytes) : Except Fault Toks := lex (l.length + 1) at_ l
theorem lex_fuel : ∀ (n : Nat) (m : Nat) (at_ : Nat) (l : Bytes), l.length < n → l.length < m → lex n at_ l = lex m at_ l
  | 0, _, _, _, h, _ => by omega
  | n + 1, 0, _, _, _, h => by omega
  | n + 1, m + 1, at_, [], _, _ => rfl
  | n + 1, m + 1, at_, b :: r, h1, h2 => by
    rw [List.length_cons] at h1 h2
    have h3 := dropWhile_le (fun x => x != 10) r
    show (if isBlank b = true then lex n (at_ + 1) r else if b == 35 then lex n _ _ else match token (b :: r) with | none => _ | some x => (lex n (at_ + x.2) ((b :: r).drop x.2)).map _) = (if isBlank b = true then lex m (at_ + 1) r else if b == 35 then lex m _ _ else match token (b :: r) with | none => _ | some x => (lex m (at_ + x.2) ((b :: r).drop x.2)).map _)
    rw [lex_fuel n m (at_ + 1) r (by omega) (by omega), lex_fuel n m _ (r.dropWhile (fun x => x != 10)) (by omega) (by omega)]
    cases ht : token (b :: r) with
    | none => rfl
    | some x =>
      have hx := token_len ht
      have hp : 1 ≤ tokLen (b :: r) := tokLen_pos
      have hd : ((b :: r).drop x.2).length ≤ r.length := by
        rw [List.length_drop, List.length_cons]
        omega
      show (if isBlank b = true then _ else if b == 35 then _ else (lex n (at_ + x.2) ((b :: r).drop x.2)).map _) = (if isBlank b = true then _ else if b == 35 then _ else (lex m (at_ + x.2) ((b :: r).drop x.2)).map _)
      rw [lex_fuel n m _ _ (by omega) (by omega)]
theorem lexF_nil (at_ : Nat) : lexF at_ [] = .ok [⟨at_, .last⟩] := rfl
theorem lexF_blank {at_ : Nat} {b : UInt8} {r : Bytes} (h : isBlank b = true) : lexF at_ (b :: r) = lexF (at_ + 1) r := by
  show (if isBlank b = true then lex (r.length + 1) (at_ + 1) r else _) = _
  rw [if_pos h]
  rfl
theorem lexF_remark {at_ : Nat} {b : UInt8} {r : Bytes} (h : isBlank b = false) (h2 : (b == 35) = true) : lexF at_ (b :: r) = lexF (at_ + 1 + (r.takeWhile notLf).length) (r.dropWhile notLf) := by
  show (if isBlank b = true then _ else if (b == 35) = true then lex (r.length + 1) (at_ + 1 + (r.takeWhile notLf).length) (r.dropWhile notLf) else _) = _
  rw [if_neg (by rw [h]; exact Bool.false_ne_true), if_pos h2]
  exact lex_fuel _ _ _ _ (Nat.lt_succ_of_le (dropWhile_le _ _)) (Nat.lt_succ_self _)
theorem lexF_tok {at_ : Nat} {b : UInt8} {r : Bytes} (h : isBlank b = false) (h2 : (b == 35) = false) :
    lexF at_ (b :: r) = match token (b :: r) with | none => (Except.error (Fault.mk 2 at_) : Except Fault Toks) | some x => (lexF (at_ + tokLen (b :: r)) ((b :: r).drop (tokLen (b :: r)))).map fun l => ⟨at_, x.1⟩ :: l := by
  show (if isBlank b = true then _ else if (b == 35) = true then _ else match token (b :: r) with | none => (Except.error (Fault.mk 2 at_) : Except Fault Toks) | some x => (lex (r.length + 1) (at_ + x.2) ((b :: r).drop x.2)).map fun l => ⟨at_, x.1⟩ :: l) = _
  rw [if_neg (by rw [h]; exact Bool.false_ne_true), if_neg (by rw [h2]; exact Bool.false_ne_true)]
  cases ht : token (b :: r) with
  | none => rfl
  | some x =>
    have hx := token_len ht
    have hp : 1 ≤ tokLen (b :: r) := tokLen_pos
    show (lex (r.length + 1) (at_ + x.2) ((b :: r).drop x.2)).map _ = _
    rw [hx]
    congr 1
    refine lex_fuel _ _ _ _ ?_ (Nat.lt_succ_self _)
    rw [List.length_drop, List.length_cons]
    omega
/-- the gap in front is passed -/
theorem lexF_gap : ∀ (n : Nat) (at_ : Nat) (l : Bytes), l.length ≤ n → lexF at_ l = lexF (at_ + gap l) (l.drop (gap l))
  | 0, at_, l, h => by
    have e : l = [] := List.length_eq_zero_iff.mp (by omega)
    subst e
    rfl
  | n + 1, at_, [], _ => rfl
  | n + 1, at_, b :: r, h => by
    rw [List.length_cons] at h
    cases hb : isBlank b with
    | true =>
      rw [lexF_blank hb, lexF_gap n _ r (by omega), gap_blank hb, Nat.add_comm 1, List.drop_succ_cons]
      congr 1
      omega
    | false =>
      cases hr : (b == 35) with
      | true =>
        have h3 := dropWhile_le notLf r
        rw [lexF_remark hb hr, lexF_gap n _ (r.dropWhile notLf) (by omega), gap_remark hb hr]
        rw [show 1 + (r.takeWhile notLf).length + gap (r.dropWhile notLf) = ((r.takeWhile notLf).length + gap (r.dropWhile notLf)) + 1 by omega, List.drop_succ_cons, ← List.drop_drop, drop_takeWhile]
        congr 1
        omega
      | false => rw [gap_none hb hr, Nat.add_zero, List.drop_zero]
theorem lexF_skip (at_ : Nat) (l : Bytes) : lexF at_ l = lexF (at_ + gap l) (l.drop (gap l)) := lexF_gap l.length at_ l (Nat.le_refl _)
/-- behind a gap stands the end, or no blank and no remark -/
def Clear (l : Bytes) : Prop := match l with
  | [] => True
  | b :: _ => isBlank b = false ∧ (b == 35) = false
theorem gap_clear : ∀ (n : Nat) (l : Bytes), l.length ≤ n → Clear (l.drop (gap l)) ∧ gap l ≤ l.length
  | 0, l, h => by
    have e : l = [] := List.length_eq_zero_iff.mp (by omega)
    subst e
    exact ⟨trivial, Nat.le_refl _⟩
  | n + 1, [], _ => ⟨trivial, Nat.le_refl _⟩
  | n + 1, b :: r, h => by
    rw [List.length_cons] at h
    cases hb : isBlank b with
    | true =>
      obtain ⟨i1, i2⟩ := gap_clear n r (by omega)
      rw [gap_blank hb, Nat.add_comm 1, List.drop_succ_cons, List.length_cons]
      exact ⟨i1, by omega⟩
    | false =>
      cases hr : (b == 35) with
      | true =>
        have h3 := dropWhile_le notLf r
        have h4 := takeWhile_add notLf r
        obtain ⟨i1, i2⟩ := gap_clear n (r.dropWhile notLf) (by omega)
        rw [gap_remark hb hr, show 1 + (r.takeWhile notLf).length + gap (r.dropWhile notLf) = ((r.takeWhile notLf).length + gap (r.dropWhile notLf)) + 1 by omega, List.drop_succ_cons, ← List.drop_drop, drop_takeWhile, List.length_cons]
        exact ⟨i1, by omega⟩
      | false =>
        rw [gap_none hb hr, List.drop_zero]
        exact ⟨⟨hb, hr⟩, Nat.zero_le _⟩
theorem gap_le (l : Bytes) : gap l ≤ l.length := (gap_clear l.length l (Nat.le_refl _)).2
theorem gap_ok (l : Bytes) : Clear (l.drop (gap l)) := (gap_clear l.length l (Nat.le_refl _)).1
theorem tokens_is (b : Bytes) : tokens b = if 4096 < b.length then .error ⟨1, 4096⟩ else lexF 0 b := rfl
/-! ### numbers -/
def Digits (l : Bytes) : Prop := ∀ b ∈ l, isDigit b = true
theorem dig_range {b : UInt8} (h : isDigit b = true) : 48 ≤ b.toNat ∧ b.toNat ≤ 57 := of_decide_eq_true h
theorem decimal_snoc (l : Bytes) (b : UInt8) : decimal (l ++ [b]) = 10 * decimal l + (b.toNat - 48) := by
  unfold decimal
  rw [List.foldl_append]
  rfl
theorem foldl_ge (l : Bytes) : ∀ n : Nat, n * 10 ^ l.length ≤ l.foldl (fun n b => 10 * n + (b.toNat - 48)) n := by
  induction l with
  | nil => intro n; simp
  | cons b r ih =>
    intro n
    rw [List.foldl_cons, List.length_cons, Nat.pow_succ]
    have := ih (10 * n + (b.toNat - 48))
    refine Nat.le_trans ?_ this
    rw [Nat.add_mul]
    have e : n * (10 ^ r.length * 10) = 10 * n * 10 ^ r.length := by
      rw [Nat.mul_comm (10 ^ r.length) 10, ← Nat.mul_assoc, Nat.mul_comm n 10]
    omega
theorem long_big {b : UInt8} {r : Bytes} (h : isDigit b = true) (hz : b ≠ 48) (hl : 10 < (b :: r).length) : 1000000000 < decimal (b :: r) := by
  have h1 := dig_range h
  have h2 : b.toNat ≠ 48 := fun e => hz (UInt8.toNat_inj.mp (by rw [e]; rfl))
  unfold decimal
  rw [List.foldl_cons]
  have h3 := foldl_ge r (10 * 0 + (b.toNat - 48))
  have h4 : 10 ^ 10 ≤ 10 ^ r.length := Nat.pow_le_pow_right (by decide) (by rw [List.length_cons] at hl; omega)
  have h5 : 1 * 10 ^ r.length ≤ (10 * 0 + (b.toNat - 48)) * 10 ^ r.length := Nat.mul_le_mul_right _ (by omega)
  have h6 : (10 : Nat) ^ 10 = 10000000000 := by decide
  omega
/-- what number_token asks -/
theorem numberOf_is {b : UInt8} {r : Bytes} (h : isDigit b = true) :
    numberOf (b :: r) = if (1 < (b :: r).length ∧ b = 48) ∨ 1000000000 < decimal (b :: r) then none else some (decimal (b :: r)) := by
  unfold numberOf
  by_cases hc : (1 < (b :: r).length ∧ b = 48) ∨ 1000000000 < decimal (b :: r)
  · rw [if_pos hc, if_pos]
    rcases hc with ⟨h1, h2⟩ | h1
    · exact .inr (.inr (.inl ⟨h1, by rw [h2] <;> rfl⟩))
    · exact .inr (.inr (.inr h1))
  · rw [if_neg hc, if_neg]
    rintro (h1 | h1 | ⟨h1, h2⟩ | h1)
    · cases h1
    · by_cases hz : b = 48
      · exact hc (.inl ⟨by omega, hz⟩)
      · exact hc (.inr (long_big h hz h1))
    · exact hc (.inl ⟨h1, by
        simp at h2
        exact h2⟩)
    · exact hc (.inr h1)
end Ub
namespace Ub
open VaskyBase
/-- what the piece of a token is -/
def tokP (p : Bytes) : Option Tok := match p with
  | [] => none
  | b :: _ => if isLetter b = true then (if 16 < p.length then none else some (.name p)) else if isDigit b = true then (numberOf p).map Tok.num else if SIGNS.contains b = true then some (.sign b.toNat) else none
theorem take_takeWhile (p : UInt8 → Bool) : ∀ l : Bytes, l.take (l.takeWhile p).length = l.takeWhile p
  | [] => rfl
  | b :: r => by
    rw [List.takeWhile_cons]
    split
    · rw [List.length_cons, List.take_succ_cons, take_takeWhile p r]
    · rfl
def pieceOf (l : Bytes) : Bytes := l.take (tokLen l)
theorem piece_cons {b : UInt8} {r : Bytes} : ∃ r', pieceOf (b :: r) = b :: r' := by
  have h := tokLen_pos (b := b) (r := r)
  unfold pieceOf
  cases e : tokLen (b :: r) with
  | zero => omega
  | succ n => exact ⟨_, List.take_succ_cons⟩
theorem piece_digits {b : UInt8} {r : Bytes} (h1 : isLetter b = false) (h : isDigit b = true) : Digits (pieceOf (b :: r)) := by
  have e : pieceOf (b :: r) = (b :: r).takeWhile isDigit := by
    unfold pieceOf tokLen
    show (b :: r).take (if isLetter b = true then _ else if isDigit b = true then _ else 1) = _
    rw [if_neg (by rw [h1]; exact Bool.false_ne_true), if_pos h, take_takeWhile]
  rw [e]
  intro c hc
  have := List.all_takeWhile (p := isDigit) (l := b :: r)
  rw [List.all_eq_true] at this
  exact this c hc
theorem token_piece {b : UInt8} {r : Bytes} : token (b :: r) = (tokP (pieceOf (b :: r))).map fun t => (t, tokLen (b :: r)) := by
  have h' : token (b :: r) = (if isLetter b = true then (if NAME < ((b :: r).takeWhile isLod).length then none else some (Tok.name ((b :: r).takeWhile isLod), ((b :: r).takeWhile isLod).length))
    else if isDigit b = true then (numberOf ((b :: r).takeWhile isDigit)).map fun n => (Tok.num n, ((b :: r).takeWhile isDigit).length)
    else if SIGNS.contains b = true then some (Tok.sign b.toNat, 1) else none) := rfl
  rw [h']
  clear h'
  obtain ⟨r', e⟩ := piece_cons (b := b) (r := r)
  have e2 : tokP (pieceOf (b :: r)) = (if isLetter b = true then (if 16 < (pieceOf (b :: r)).length then none else some (.name (pieceOf (b :: r)))) else if isDigit b = true then (numberOf (pieceOf (b :: r))).map Tok.num else if SIGNS.contains b = true then some (.sign b.toNat) else none) := by
    rw [e]
    rfl
  rw [e2]
  have e3 : tokLen (b :: r) = (if isLetter b = true then ((b :: r).takeWhile isLod).length else if isDigit b = true then ((b :: r).takeWhile isDigit).length else 1) := rfl
  have e4 : pieceOf (b :: r) = (b :: r).take (tokLen (b :: r)) := rfl
  by_cases h1 : isLetter b = true
  · rw [if_pos h1] at e3 ⊢
    rw [if_pos h1, e4, e3, take_takeWhile]
    by_cases h3 : 16 < ((b :: r).takeWhile isLod).length
    · rw [if_pos (show NAME < _ from h3), if_pos h3]
      rfl
    · rw [if_neg (show ¬ NAME < _ from h3), if_neg h3]
      rfl
  · rw [if_neg h1] at e3 ⊢
    rw [if_neg h1]
    by_cases h2 : isDigit b = true
    · rw [if_pos h2] at e3 ⊢
      rw [if_pos h2, e4, e3, take_takeWhile, Option.map_map]
      rfl
    · rw [if_neg h2] at e3 ⊢
      rw [if_neg h2, e3]
      by_cases h3 : SIGNS.contains b = true
      · rw [if_pos h3, if_pos h3]
        rfl
      · rw [if_neg h3, if_neg h3]
        rfl
/-- the tokens from a clear place on -/
theorem lexF_piece {at_ : Nat} {b : UInt8} {r : Bytes} (h : Clear (b :: r)) :
    lexF at_ (b :: r) = match tokP (pieceOf (b :: r)) with | none => (Except.error (Fault.mk 2 at_) : Except Fault Toks) | some t => (lexF (at_ + tokLen (b :: r)) ((b :: r).drop (tokLen (b :: r)))).map fun l => ⟨at_, t⟩ :: l := by
  rw [lexF_tok h.1 h.2, token_piece]
  cases tokP (pieceOf (b :: r)) <;> rfl
end Ub
namespace Ub
open PySem PySem.Spec PyProof.Rows L2
open VaskyBase (Bytes word isDigit isLetter isBlank)
section
variable {P : Program} {w : World} {K : PySem.W.Frag} {mg : Str → Option Value} {base : Heap} {A : Ad}
/-! ### one byte -/
def spByte (p : UInt8 → Bool) : Sp := fun vs H Q _ => ∃ c : UInt8, vs = [bV c] ∧ Q (.bl (p c)) H
theorem range_dec {a b : Nat} {c : UInt8} : decide (a ≤ c.toNat ∧ c.toNat ≤ b) = (decide ((a : Int) ≤ (c.toNat : Int)) && decide ((c.toNat : Int) ≤ (b : Int))) := by
  rw [Bool.eq_iff_iff, Bool.and_eq_true, decide_eq_true_iff, decide_eq_true_iff, decide_eq_true_iff]
  omega
abbrev s_is_digit : Stmt := top 29
theorem sc_is_digit : FnScope ["byte"] ["byte"] (defScope s_is_digit) := ⟨rfl, rfl, rfl, by decide +kernel, rfl, by decide +kernel, by decide +kernel⟩
theorem c_is_digit (T : Txt K mg A) (D : Dn K mg "is_digit" s_is_digit ["byte"]) : Ca P w K mg base CX0 1 "is_digit" (spByte isDigit) := by
  have sc := sc_is_digit
  refine D.ca sc (fun vs H Q E h => ?_) (fun f cdv Ar outer s H vs Q E hr h => ?_)
  · obtain ⟨c, rfl, _⟩ := h
    rfl
  · obtain ⟨c, rfl, q⟩ := h
    refine ⟨_, (pss_one (ps_ret (pe_chain op_le op_le (pe_callB call_ord (by rfl) T.ord (by decide +kernel) (pa_cons pe_str pa_nil)) (pv 0) (pe_callB call_ord (by rfl) T.ord (by decide +kernel) (pa_cons pe_str pa_nil))))), ?_⟩
    unfold isDigit at q
    rw [range_dec] at q
    refine ⟨_, rfl, rfl, _, rfl, 48, (c.toNat : Int), rfl, rfl, _, rfl, ?_⟩
    cases h0 : decide ((48 : Int) ≤ (c.toNat : Int)) with
    | true =>
      rw [show decide (((48 : Nat) : Int) ≤ (c.toNat : Int)) = true from h0] at q
      exact iteT ⟨_, rfl, rfl, _, 57, rfl, rfl, q⟩
    | false =>
      rw [show decide (((48 : Nat) : Int) ≤ (c.toNat : Int)) = false from h0] at q
      exact iteF q
abbrev s_is_letter : Stmt := top 30
theorem sc_is_letter : FnScope ["byte"] ["byte"] (defScope s_is_letter) := ⟨rfl, rfl, rfl, by decide +kernel, rfl, by decide +kernel, by decide +kernel⟩
theorem c_is_letter (T : Txt K mg A) (D : Dn K mg "is_letter" s_is_letter ["byte"]) : Ca P w K mg base CX0 1 "is_letter" (spByte isLetter) := by
  have sc := sc_is_letter
  refine D.ca sc (fun vs H Q E h => ?_) (fun f cdv Ar outer s H vs Q E hr h => ?_)
  · obtain ⟨c, rfl, _⟩ := h
    rfl
  · obtain ⟨c, rfl, q⟩ := h
    refine ⟨_, (pss_one (ps_ret (pe_or (pe_chain op_le op_le (pe_callB call_ord (by rfl) T.ord (by decide +kernel) (pa_cons pe_str pa_nil)) (pv 0) (pe_callB call_ord (by rfl) T.ord (by decide +kernel) (pa_cons pe_str pa_nil))) (pe_one (pe_chain op_le op_le (pe_callB call_ord (by rfl) T.ord (by decide +kernel) (pa_cons pe_str pa_nil)) (pv 0) (pe_callB call_ord (by rfl) T.ord (by decide +kernel) (pa_cons pe_str pa_nil))))))), ?_⟩
    unfold isLetter at q
    rw [range_dec, range_dec] at q
    have low : (decide (((97 : Nat) : Int) ≤ (c.toNat : Int)) && decide ((c.toNat : Int) ≤ ((122 : Nat) : Int))) = decide (((97 : Nat) : Int) ≤ (c.toNat : Int)) ∨ True := .inr trivial
    have second : ∀ {H : Hp}, Q (.bl (decide (((97 : Nat) : Int) ≤ (c.toNat : Int)) && decide ((c.toNat : Int) ≤ ((122 : Nat) : Int)))) H →
        tChain (rI0 fun i j => .bl (decide (i ≤ j))) (rI0 fun i j => .bl (decide (i ≤ j))) (tCB (fun xs H Q => ∃ x, xs = [.str x] ∧ x.length = 1 ∧ Q (.int (x.cps.getD 0 0 : Nat)) H) (tCons (tC (.str "a")) tNil)) (tVar 0) (tCB (fun xs H Q => ∃ x, xs = [.str x] ∧ x.length = 1 ∧ Q (.int (x.cps.getD 0 0 : Nat)) H) (tCons (tC (.str "z")) tNil)) (start ["byte"] [bV c]) H Q := fun {H} q => by
      refine ⟨_, rfl, rfl, _, rfl, 97, (c.toNat : Int), rfl, rfl, _, rfl, ?_⟩
      cases h0 : decide ((97 : Int) ≤ (c.toNat : Int)) with
      | true =>
        rw [show decide (((97 : Nat) : Int) ≤ (c.toNat : Int)) = true from h0] at q
        exact iteT ⟨_, rfl, rfl, _, 122, rfl, rfl, q⟩
      | false =>
        rw [show decide (((97 : Nat) : Int) ≤ (c.toNat : Int)) = false from h0] at q
        exact iteF q
    refine ⟨_, rfl, rfl, _, rfl, 65, (c.toNat : Int), rfl, rfl, _, rfl, ?_⟩
    cases h0 : decide ((65 : Int) ≤ (c.toNat : Int)) with
    | true =>
      rw [show decide (((65 : Nat) : Int) ≤ (c.toNat : Int)) = true from h0] at q
      refine iteT ⟨_, rfl, rfl, _, 90, rfl, rfl, _, rfl, ?_⟩
      cases h1 : decide ((c.toNat : Int) ≤ (90 : Int)) with
      | true =>
        rw [show decide ((c.toNat : Int) ≤ ((90 : Nat) : Int)) = true from h1] at q
        exact iteT q
      | false =>
        rw [show decide ((c.toNat : Int) ≤ ((90 : Nat) : Int)) = false from h1] at q
        exact iteF (second q)
    | false =>
      rw [show decide (((65 : Nat) : Int) ≤ (c.toNat : Int)) = false from h0] at q
      refine iteF ⟨_, rfl, ?_⟩
      exact iteF (second q)
abbrev s_is_letter_or_digit : Stmt := top 31
theorem sc_is_letter_or_digit : FnScope ["byte"] ["byte"] (defScope s_is_letter_or_digit) := ⟨rfl, rfl, rfl, by decide +kernel, rfl, by decide +kernel, by decide +kernel⟩
theorem c_is_letter_or_digit (T : Txt K mg A) (c_is_letter : Ca P w K mg base CX0 1 "is_letter" (spByte isLetter)) (c_is_digit : Ca P w K mg base CX0 1 "is_digit" (spByte isDigit)) (D : Dn K mg "is_letter_or_digit" s_is_letter_or_digit ["byte"]) : Ca P w K mg base CX0 2 "is_letter_or_digit" (spByte isLod) := by
  have sc := sc_is_letter_or_digit
  refine D.ca sc (fun vs H Q E h => ?_) (fun f cdv Ar outer s H vs Q E hr h => ?_)
  · obtain ⟨c, rfl, _⟩ := h
    rfl
  · obtain ⟨c, rfl, q⟩ := h
    refine ⟨_, (pss_one (ps_ret (pe_or (pe_ca c_is_letter hr (pa_cons (pv 0) pa_nil)) (pe_one (pe_ca c_is_digit hr (pa_cons (pv 0) pa_nil)))))), ?_⟩
    refine ⟨_, rfl, c, rfl, _, rfl, ?_⟩
    unfold isLod at q
    cases h1 : isLetter c with
    | true =>
      rw [h1, Bool.true_or] at q
      exact iteT q
    | false =>
      rw [h1, Bool.false_or] at q
      exact iteF ⟨_, rfl, c, rfl, q⟩
/-! ### run_end, remark_end -/
/-- the defs that run_end may be handed -/
noncomputable def heldS (A : Ad) : Addr → Option Sp := fun f => if f = A.dig then some (spByte isDigit) else if f = A.lod then some (spByte isLod) else none
theorem held_of {k : Nat} {x : Str} {f : Addr} {sp : Sp} (c : Ca P w K mg base CX0 k x sp) (g : mg x = some (.ref f)) : Held P w K mg base k f sp := by
  obtain ⟨f', fd, ps, F, hm, kp, b⟩ := c.ex
  rw [hm] at g
  cases g
  exact ⟨fd, ps, F, kp, b⟩
theorem held_all (T : Txt K mg A) (c_is_digit : Ca P w K mg base CX0 1 "is_digit" (spByte isDigit)) (c_lod : Ca P w K mg base CX0 2 "is_letter_or_digit" (spByte isLod)) : ∀ f sp, heldS A f = some sp → Held P w K mg base 2 f sp := by
  intro f sp h
  unfold heldS at h
  by_cases h1 : f = A.dig
  · rw [if_pos h1] at h
    cases h
    obtain ⟨fd, ps, F, k, b⟩ := (held_of c_is_digit T.gis_digit).ex
    rw [h1]
    exact ⟨fd, ps, F.mono (by decide), k, b⟩
  · rw [if_neg h1] at h
    by_cases h2 : f = A.lod
    · rw [if_pos h2] at h
      cases h
      rw [h2]
      exact held_of c_lod T.gis_letter_or_digit
    · rw [if_neg h2] at h
      cases h
theorem tw_stop {p : UInt8 → Bool} {l : Bytes} {k : Nat} {b : UInt8} (h : l[k]? = some b) (hp : p b = false) (hk : k ≤ (l.takeWhile p).length) : (l.takeWhile p).length = k := by
  refine Nat.le_antisymm ?_ hk
  refine Nat.le_of_not_lt fun hlt => ?_
  have h1 : (l.takeWhile p)[k]? = some b := by
    rw [List.getElem?_eq_getElem hlt]
    have h2 := List.IsPrefix.getElem (List.takeWhile_prefix (p := p) (l := l)) hlt
    rw [h2]
    have h3 := List.getElem?_eq_some_iff.mp h
    obtain ⟨h4, h5⟩ := h3
    rw [h5]
  have h2 := List.all_takeWhile (p := p) (l := l)
  rw [List.all_eq_true] at h2
  have h3 := h2 b (List.mem_of_getElem? h1)
  rw [hp] at h3
  cases h3
theorem tw_go {p : UInt8 → Bool} : ∀ {l : Bytes} {k : Nat} {b : UInt8}, l[k]? = some b → p b = true → k ≤ (l.takeWhile p).length → k + 1 ≤ (l.takeWhile p).length
  | [], k, b, h, _, _ => by simp at h
  | x :: r, 0, b, h, hp, _ => by
    have e : x = b := by simpa using h
    subst e
    rw [List.takeWhile_cons, if_pos hp, List.length_cons]
    omega
  | x :: r, k + 1, b, h, hp, hk => by
    rw [List.takeWhile_cons] at hk ⊢
    by_cases hx : p x = true
    · rw [if_pos hx, List.length_cons] at hk ⊢
      have := tw_go (p := p) (l := r) (k := k) (by simpa using h) hp (by omega)
      omega
    · rw [if_neg hx] at hk
      simp at hk
def spRunEnd (A : Ad) : Sp := fun vs H Q _ => ∃ (a f : Addr) (bs : Bytes) (i : Nat) (p : UInt8 → Bool), vs = [.ref a, nV i, .ref f] ∧ H a = some (.lst (bs.map bV)) ∧ heldS A f = some (spByte p) ∧ i ≤ bs.length ∧ Q (nV (i + ((bs.drop i).takeWhile p).length)) H
abbrev s_run_end : Stmt := top 32
theorem sc_run_end : FnScope ["text", "at", "belongs"] ["text", "at", "belongs"] (defScope s_run_end) := ⟨rfl, rfl, rfl, by decide +kernel, rfl, by decide +kernel, by decide +kernel⟩
theorem c_run_end (T : Txt K mg A) (HB : ∀ f sp, heldS A f = some sp → Held P w K mg base 2 f sp) (D : Dn K mg "run_end" s_run_end ["text", "at", "belongs"]) : Ca P w K mg base CX0 3 "run_end" (spRunEnd A) := by
  have sc := sc_run_end
  refine D.ca sc (fun vs H Q E h => ?_) (fun f cdv Ar outer s H vs Q E hr h => ?_)
  · obtain ⟨a, f, bs, i, p, rfl, _⟩ := h
    rfl
  · obtain ⟨a, g, bs, i, p, rfl, ha, hg, hi, q⟩ := h
    refine ⟨_, (pss_cons (ps_while PassesOwn.never (PW.pt (pw_and (pt_cmpR op_lt (pv 1) (pe_callB call_len_seq (by rfl) T.len PySem.boot_len (pa_cons (pv 0) pa_nil)) (nomark _)) (pw_and1 (pt_val (pe_callA (i := 2) HB hr (by rfl) (.inl rfl) (pa_cons (pe_ix ix_list (pv 0) (pv 1) (fun _ _ => rfl)) pa_nil)))))) (pss_one (ps_aug (i := 1) sc.nd rfl (Or.inl rfl) pe_int ip_add)))
      (pss_one (ps_ret (pv 1)))), ?_⟩
    refine ⟨fun m σ H' => ∃ k : Nat, σ = [some (.ref a), some (nV (i + k)), some (.ref g)] ∧ H' = H ∧ k ≤ ((bs.drop i).takeWhile p).length ∧ m = bs.length - (i + k), ⟨_, 0, rfl, rfl, Nat.zero_le _, rfl⟩, ?_⟩
    rintro m σ H' ⟨k, rfl, rfl, hk, rfl⟩
    refine ⟨_, rfl, _, rfl, a, _, rfl, .inl (SqL.of ha), ((i + k : Nat) : Int), _, rfl, rfl, _, rfl, ?_⟩
    rw [List.length_map]
    have stop : ((bs.drop i).takeWhile p).length = k → Q (nV (i + k)) H' := fun e => by
      rw [e] at q
      exact q
    by_cases hlt : i + k < bs.length
    · rw [decide_eq_true (show ((i + k : Nat) : Int) < (bs.length : Int) by omega)]
      have hb : bs[i + k]? = some bs[i + k] := List.getElem?_eq_getElem hlt
      have hb' : (bs.drop i)[k]? = some bs[i + k] := by rw [List.getElem?_drop]; exact hb
      refine iteT ⟨g, _, rfl, hg, _, rfl, _, rfl, a, _, _, _, rfl, rfl, SqL.of ha, atI_nat (map_at hb), bs[i + k], rfl, _, rfl, ?_⟩
      cases hp : p bs[i + k] with
      | true =>
        refine iteT ⟨fun σ' H2 => ∃ m', m' < bs.length - (i + k) ∧ ∃ k : Nat, σ' = [some (.ref a), some (nV (i + k)), some (.ref g)] ∧ H2 = H' ∧ k ≤ ((bs.drop i).takeWhile p).length ∧ m' = bs.length - (i + k), fun _ _ z => z, ?_⟩
        exact ⟨_, rfl, _, _, rfl, rfl, bs.length - (i + (k + 1)), by omega, k + 1, rfl, rfl, tw_go hb' hp hk, rfl⟩
      | false =>
        exact iteF ⟨_, rfl, stop (tw_stop hb' hp hk)⟩
    · rw [decide_eq_false (show ¬ ((i + k : Nat) : Int) < (bs.length : Int) by omega)]
      refine iteF (iteF ⟨_, rfl, stop ?_⟩)
      have := takeWhile_le p (bs.drop i)
      rw [List.length_drop] at this
      omega
end
end Ub
namespace Ub
open PySem PySem.Spec PyProof.Rows L2
open VaskyBase (Bytes word isDigit isLetter isBlank)
section
variable {P : Program} {w : World} {K : PySem.W.Frag} {mg : Str → Option Value} {base : Heap} {A : Ad}
theorem tw_end {p : UInt8 → Bool} {bs : Bytes} {i k : Nat} (h : ¬ i + k < bs.length) (hk : k ≤ ((bs.drop i).takeWhile p).length) : ((bs.drop i).takeWhile p).length = k := by
  have := takeWhile_le p (bs.drop i)
  rw [List.length_drop] at this
  omega
theorem byte_eq {c : UInt8} {n : Nat} (h : n < 256) : decide (bV c = V.int (n : Int)) = (c == UInt8.ofNat n) := by
  rw [Bool.eq_iff_iff, decide_eq_true_iff, beq_iff_eq]
  refine ⟨fun e => ?_, fun e => ?_⟩
  · injection e with e
    have e2 : c.toNat = n := by omega
    rw [← e2, UInt8.ofNat_toNat]
  · rw [e]
    exact bV_ofNat h
def spRemarkEnd : Sp := fun vs H Q _ => ∃ (a : Addr) (bs : Bytes) (i : Nat), vs = [.ref a, nV i] ∧ H a = some (.lst (bs.map bV)) ∧ i ≤ bs.length ∧ Q (nV (i + ((bs.drop i).takeWhile notLf).length)) H
abbrev s_remark_end : Stmt := top 33
theorem sc_remark_end : FnScope ["text", "at"] ["text", "at"] (defScope s_remark_end) := ⟨rfl, rfl, rfl, by decide +kernel, rfl, by decide +kernel, by decide +kernel⟩
theorem c_remark_end (T : Txt K mg A) (D : Dn K mg "remark_end" s_remark_end ["text", "at"]) : Ca P w K mg base CX0 1 "remark_end" spRemarkEnd := by
  have sc := sc_remark_end
  refine D.ca sc (fun vs H Q E h => ?_) (fun f cdv Ar outer s H vs Q E hr h => ?_)
  · obtain ⟨a, bs, i, rfl, _⟩ := h
    rfl
  · obtain ⟨a, bs, i, rfl, ha, hi, q⟩ := h
    refine ⟨_, (pss_cons (ps_while PassesOwn.never (PW.pt (pw_and (pt_cmpR op_lt (pv 1) (pe_callB call_len_seq (by rfl) T.len PySem.boot_len (pa_cons (pv 0) pa_nil)) (nomark _)) (pw_and1 (pt_cmpR op_ne (pe_ix ix_list (pv 0) (pv 1) (fun _ _ => rfl)) (pe_gi rfl T.gLINE_END) (nomark _))))) (pss_one (ps_aug (i := 1) sc.nd rfl (Or.inl rfl) pe_int ip_add)))
      (pss_one (ps_ret (pv 1)))), ?_⟩
    refine ⟨fun m σ H' => ∃ k : Nat, σ = [some (.ref a), some (nV (i + k))] ∧ H' = H ∧ k ≤ ((bs.drop i).takeWhile notLf).length ∧ m = bs.length - (i + k), ⟨_, 0, rfl, rfl, Nat.zero_le _, rfl⟩, ?_⟩
    rintro m σ H' ⟨k, rfl, rfl, hk, rfl⟩
    refine ⟨_, rfl, _, rfl, a, _, rfl, .inl (SqL.of ha), ((i + k : Nat) : Int), _, rfl, rfl, _, rfl, ?_⟩
    rw [List.length_map]
    have stop : ((bs.drop i).takeWhile notLf).length = k → Q (nV (i + k)) H' := fun e => by
      rw [e] at q
      exact q
    by_cases hlt : i + k < bs.length
    · rw [decide_eq_true (show ((i + k : Nat) : Int) < (bs.length : Int) by omega)]
      have hb : bs[i + k]? = some bs[i + k] := List.getElem?_eq_getElem hlt
      have hb' : (bs.drop i)[k]? = some bs[i + k] := by rw [List.getElem?_drop]; exact hb
      refine iteT ⟨_, rfl, _, rfl, a, _, _, _, rfl, rfl, SqL.of ha, atI_nat (map_at hb), rfl, _, rfl, ?_⟩
      have e : (!decide (bV bs[i + k] = V.int ((10 : Nat) : Int))) = notLf bs[i + k] := by
        rw [byte_eq (by decide)]
        rfl
      rw [show (!decide (bV bs[i + k] = V.int 10)) = notLf bs[i + k] from e]
      cases hp : notLf bs[i + k] with
      | true =>
        refine iteT ⟨fun σ' H2 => ∃ m', m' < bs.length - (i + k) ∧ ∃ k : Nat, σ' = [some (.ref a), some (nV (i + k))] ∧ H2 = H' ∧ k ≤ ((bs.drop i).takeWhile notLf).length ∧ m' = bs.length - (i + k), fun _ _ z => z, ?_⟩
        exact ⟨_, rfl, _, _, rfl, rfl, bs.length - (i + (k + 1)), by omega, k + 1, rfl, rfl, tw_go hb' hp hk, rfl⟩
      | false =>
        exact iteF ⟨_, rfl, stop (tw_stop hb' hp hk)⟩
    · rw [decide_eq_false (show ¬ ((i + k : Nat) : Int) < (bs.length : Int) by omega)]
      exact iteF (iteF ⟨_, rfl, stop (tw_end hlt hk)⟩)
/-! ### skip_gap -/
theorem blank_in {c : UInt8} : inV (bV c) [.int 32, .int 9, .int 10] = isBlank c := by
  show (((32 : Int) == (c.toNat : Int)) || (((9 : Int) == (c.toNat : Int)) || (((10 : Int) == (c.toNat : Int)) || false))) = (c == 32 || (c == 9 || c == 10))
  have e : ∀ n : Nat, n < 256 → ((n : Int) == (c.toNat : Int)) = (c == UInt8.ofNat n) := fun n hn => by
    rw [← byte_eq hn, Bool.eq_iff_iff, decide_eq_true_iff, beq_iff_eq]
    exact ⟨fun z => by unfold bV; rw [z], fun z => by injection z with z; exact z.symm⟩
  have e1 := e 32 (by decide)
  have e2 := e 9 (by decide)
  have e3 := e 10 (by decide)
  rw [show ((32 : Int) == (c.toNat : Int)) = (c == 32) from e1, show ((9 : Int) == (c.toNat : Int)) = (c == 9) from e2, show ((10 : Int) == (c.toNat : Int)) = (c == 10) from e3, Bool.or_false]
theorem drop_cons {bs : Bytes} {i : Nat} {b : UInt8} (h : bs[i]? = some b) : bs.drop i = b :: bs.drop (i + 1) := by
  obtain ⟨hlt, e⟩ := List.getElem?_eq_some_iff.mp h
  rw [List.drop_eq_getElem_cons hlt, e]
def spSkip : Sp := fun vs H Q _ => ∃ (a : Addr) (bs : Bytes) (i : Nat), vs = [.ref a, nV i] ∧ H a = some (.lst (bs.map bV)) ∧ i ≤ bs.length ∧ Q (nV (i + gap (bs.drop i))) H
abbrev s_skip_gap : Stmt := top 34
theorem sc_skip_gap : FnScope ["text", "at"] ["text", "at"] (defScope s_skip_gap) := ⟨rfl, rfl, rfl, by decide +kernel, rfl, by decide +kernel, by decide +kernel⟩
theorem c_skip_gap (T : Txt K mg A) (c_remark_end : Ca P w K mg base CX0 1 "remark_end" spRemarkEnd) (D : Dn K mg "skip_gap" s_skip_gap ["text", "at"]) : Ca P w K mg base CX0 2 "skip_gap" spSkip := by
  have sc := sc_skip_gap
  refine D.ca sc (fun vs H Q E h => ?_) (fun f cdv Ar outer s H vs Q E hr h => ?_)
  · obtain ⟨a, bs, i, rfl, _⟩ := h
    rfl
  · obtain ⟨a, bs, i, rfl, ha, hi, q⟩ := h
    refine ⟨_, (pss_cons (ps_while PassesOwn.never (PW.pt (pw_and (pt_cmpR op_lt (pv 1) (pe_callB call_len_seq (by rfl) T.len PySem.boot_len (pa_cons (pv 0) pa_nil)) (nomark _)) (pw_and1 (PW.pt (pw_or (pt_cmpR (r := rIn K false) op_in_seq (pe_ix ix_list (pv 0) (pv 1) (fun _ _ => rfl)) (pe_gr rfl T.gBLANKS) (by rfl)) (pw_or1 (pt_cmpR op_eq (pe_ix ix_list (pv 0) (pv 1) (fun _ _ => rfl)) (pe_gi rfl T.gREMARK_SIGN) (nomark _)))))))) (pss_one (ps_if (pt_cmpR op_eq (pe_ix ix_list (pv 0) (pv 1) (fun _ _ => rfl)) (pe_gi rfl T.gREMARK_SIGN) (nomark _)) (pss_one (ps_set (i := 1) sc.nd rfl (Or.inl rfl) (pe_ca c_remark_end hr (pa_cons (pv 0) (pa_cons (pv 1) pa_nil))))) (pss_one (ps_aug (i := 1) sc.nd rfl (Or.inl rfl) pe_int ip_add)))))
      (pss_one (ps_ret (pv 1)))), ?_⟩
    refine ⟨fun m σ H' => ∃ j : Nat, σ = [some (.ref a), some (nV j)] ∧ H' = H ∧ j ≤ bs.length ∧ i + gap (bs.drop i) = j + gap (bs.drop j) ∧ m = bs.length - j, ⟨_, i, rfl, rfl, hi, rfl, rfl⟩, ?_⟩
    rintro m σ H' ⟨j, rfl, rfl, hj, he, rfl⟩
    refine ⟨_, rfl, _, rfl, a, _, rfl, .inl (SqL.of ha), (j : Int), _, rfl, rfl, _, rfl, ?_⟩
    rw [List.length_map]
    have stop : gap (bs.drop j) = 0 → Q (nV j) H' := fun e => by
      rw [he, e] at q
      exact q
    by_cases hlt : j < bs.length
    · rw [decide_eq_true (show (j : Int) < (bs.length : Int) by omega)]
      have hb : bs[j]? = some bs[j] := List.getElem?_eq_getElem hlt
      have hd := drop_cons hb
      have e35 : decide (bV bs[j] = V.int 35) = (bs[j] == 35) := byte_eq (c := bs[j]) (n := 35) (by decide)
      refine iteT ⟨_, rfl, _, rfl, a, _, _, _, rfl, rfl, SqL.of ha, atI_nat (map_at hb), A.blk, _, rfl, .inr (T.blk _), rfl, rfl, _, rfl, ?_⟩
      show if inV (bV bs[j]) [.int 32, .int 9, .int 10] = true then _ else _
      rw [blank_in]
      have body : (isBlank bs[j] = true ∨ (bs[j] == 35) = true) → ∃ N : L2.St → Hp → Prop, (∀ σ' H2, N σ' H2 → ∃ m', m' < bs.length - j ∧ ∃ j : Nat, σ' = [some (.ref a), some (nV j)] ∧ H2 = H' ∧ j ≤ bs.length ∧ i + gap (bs.drop i) = j + gap (bs.drop j) ∧ m' = bs.length - j) ∧
          (decide (bV bs[j] = V.int 35) = true → N [some (.ref a), some (nV (j + ((bs.drop j).takeWhile notLf).length))] H') ∧ (decide (bV bs[j] = V.int 35) = false → N [some (.ref a), some (nV (j + 1))] H') := fun hor => by
        refine ⟨_, fun _ _ z => z, fun h => ?_, fun h => ?_⟩
        · rw [e35] at h
          have h2 : isBlank bs[j] = false := by
            have := beq_iff_eq.mp h
            rw [this]
            decide
          have h3 : notLf bs[j] = true := by
            have := beq_iff_eq.mp h
            rw [this]
            decide
          have h4 := takeWhile_le notLf (bs.drop j)
          rw [List.length_drop] at h4
          have h5 : ((bs.drop j).takeWhile notLf).length = 1 + ((bs.drop (j + 1)).takeWhile notLf).length := by
            rw [hd, List.takeWhile_cons, if_pos h3, List.length_cons, Nat.add_comm]
          refine ⟨_, ?_, j + ((bs.drop j).takeWhile notLf).length, rfl, rfl, by omega, ?_, rfl⟩
          · omega
          · rw [he]
            have h6 : gap (bs.drop j) = 1 + ((bs.drop (j + 1)).takeWhile notLf).length + gap ((bs.drop (j + 1)).dropWhile notLf) := by
              rw [hd]
              exact gap_remark h2 h
            have h7 : bs.drop (j + ((bs.drop j).takeWhile notLf).length) = (bs.drop (j + 1)).dropWhile notLf := by
              rw [← drop_takeWhile, List.drop_drop, h5]
              congr 1
              omega
            rw [h7, h6, h5]
            omega
        · rw [e35] at h
          have h2 : isBlank bs[j] = true := hor.elim id fun z => by rw [h] at z; cases z
          refine ⟨_, ?_, j + 1, rfl, rfl, by omega, ?_, rfl⟩
          · omega
          · rw [he, hd, gap_blank h2]
            omega
      cases hbl : isBlank bs[j] with
      | true =>
        refine iteT (iteT ?_)
        obtain ⟨N, n1, n2, n3⟩ := body (.inl hbl)
        refine ⟨N, n1, ?_⟩
        refine ⟨_, rfl, _, rfl, a, _, _, _, rfl, rfl, SqL.of ha, atI_nat (map_at hb), rfl, _, rfl, ?_⟩
        cases h36 : decide (bV bs[j] = V.int 35) with
        | true => exact iteT ⟨_, rfl, _, rfl, a, bs, j, rfl, ha, by omega, n2 h36⟩
        | false => exact iteF ⟨_, rfl, _, _, rfl, rfl, n3 h36⟩
      | false =>
        refine iteF ⟨_, rfl, _, rfl, a, _, _, _, rfl, rfl, SqL.of ha, atI_nat (map_at hb), rfl, _, rfl, ?_⟩
        cases h35 : (bs[j] == 35) with
        | true =>
          rw [e35, h35]
          refine iteT ?_
          obtain ⟨N, n1, n2, n3⟩ := body (.inr h35)
          refine ⟨N, n1, ?_⟩
          refine ⟨_, rfl, _, rfl, a, _, _, _, rfl, rfl, SqL.of ha, atI_nat (map_at hb), rfl, _, rfl, ?_⟩
          cases h36 : decide (bV bs[j] = V.int 35) with
          | true => exact iteT ⟨_, rfl, _, rfl, a, bs, j, rfl, ha, by omega, n2 h36⟩
          | false => exact iteF ⟨_, rfl, _, _, rfl, rfl, n3 h36⟩
        | false =>
          rw [e35, h35]
          refine iteF ⟨_, rfl, stop ?_⟩
          rw [hd]
          exact gap_none hbl h35
    · rw [decide_eq_false (show ¬ (j : Int) < (bs.length : Int) by omega)]
      refine iteF (iteF ⟨_, rfl, stop ?_⟩)
      rw [List.drop_of_length_le (by omega)]
      rfl
/-! ### token_end -/
def spTokEnd : Sp := fun vs H Q _ => ∃ (a : Addr) (bs : Bytes) (i : Nat), vs = [.ref a, nV i] ∧ H a = some (.lst (bs.map bV)) ∧ i < bs.length ∧ Q (nV (i + tokLen (bs.drop i))) H
abbrev s_token_end : Stmt := top 35
theorem sc_token_end : FnScope ["text", "at"] ["text", "at"] (defScope s_token_end) := ⟨rfl, rfl, rfl, by decide +kernel, rfl, by decide +kernel, by decide +kernel⟩
theorem c_token_end (T : Txt K mg A) (c_is_letter : Ca P w K mg base CX0 1 "is_letter" (spByte isLetter)) (c_is_digit : Ca P w K mg base CX0 1 "is_digit" (spByte isDigit)) (c_run_end : Ca P w K mg base CX0 3 "run_end" (spRunEnd A)) (D : Dn K mg "token_end" s_token_end ["text", "at"]) : Ca P w K mg base CX0 4 "token_end" spTokEnd := by
  have sc := sc_token_end
  refine D.ca sc (fun vs H Q E h => ?_) (fun f cdv Ar outer s H vs Q E hr h => ?_)
  · obtain ⟨a, bs, i, rfl, _⟩ := h
    rfl
  · obtain ⟨a, bs, i, rfl, ha, hi, q⟩ := h
    refine ⟨_, (pss_cons (ps_if (pt_val (pe_ca c_is_letter hr (pa_cons (pe_ix ix_list (pv 0) (pv 1) (fun _ _ => rfl)) pa_nil))) (pss_one (ps_ret (pe_ca c_run_end hr (pa_cons (pv 0) (pa_cons (pv 1) (pa_cons (pe_gr rfl T.gis_letter_or_digit) pa_nil)))))) pss_nil)
      (pss_cons (ps_if (pt_val (pe_ca c_is_digit hr (pa_cons (pe_ix ix_list (pv 0) (pv 1) (fun _ _ => rfl)) pa_nil))) (pss_one (ps_ret (pe_ca c_run_end hr (pa_cons (pv 0) (pa_cons (pv 1) (pa_cons (pe_gr rfl T.gis_digit) pa_nil)))))) pss_nil)
      (pss_one (ps_ret (pe_op op_add (pv 1) pe_int))))), ?_⟩
    have hb : bs[i]? = some bs[i] := List.getElem?_eq_getElem hi
    have hd := drop_cons hb
    have e : tokLen (bs.drop i) = (if isLetter bs[i] = true then ((bs.drop i).takeWhile isLod).length else if isDigit bs[i] = true then ((bs.drop i).takeWhile isDigit).length else 1) := by
      rw [hd]
      rfl
    rw [e] at q
    refine ⟨_, rfl, _, rfl, a, _, _, _, rfl, rfl, SqL.of ha, atI_nat (map_at hb), bs[i], rfl, _, rfl, ?_⟩
    cases h1 : isLetter bs[i] with
    | true =>
      rw [if_pos h1] at q
      refine iteT ⟨_, rfl, _, rfl, a, A.lod, bs, i, isLod, rfl, ha, ?_, by omega, q⟩
      unfold heldS
      rw [if_neg (fun z => T.ndl z.symm), if_pos rfl]
    | false =>
      rw [if_neg (by rw [h1]; exact Bool.false_ne_true)] at q
      refine iteF ⟨_, rfl, _, rfl, a, _, _, _, rfl, rfl, SqL.of ha, atI_nat (map_at hb), bs[i], rfl, _, rfl, ?_⟩
      cases h2 : isDigit bs[i] with
      | true =>
        rw [if_pos h2] at q
        refine iteT ⟨_, rfl, _, rfl, a, A.dig, bs, i, isDigit, rfl, ha, ?_, by omega, q⟩
        unfold heldS
        rw [if_pos rfl]
      | false =>
        rw [if_neg (by rw [h2]; exact Bool.false_ne_true)] at q
        exact iteF ⟨_, rfl, _, _, rfl, rfl, q⟩
end
end Ub
namespace Ub
open PySem PySem.Spec PyProof.Rows L2
open VaskyBase (Bytes word isDigit isLetter isBlank tokens numberOf decimal RESERVED)
/-! ### tokens as they stand -/
def kindS : VaskyBase.Tok → Str
  | .name b => if RESERVED.contains b = true then ⟨(b.map UInt8.toNat).toArray⟩ else "name"
  | .num _ => "number"
  | .sign c => ⟨#[c]⟩
  | .last => "end"
def SaidAt (H : Hp) : VaskyBase.Tok → V → Prop
  | .name b, v => RESERVED.contains b = true ∨ ∃ q, v = .ref q ∧ H q = some (.lst (b.map bV))
  | .num n, v => v = nV n
  | _, _ => True
def tokF (k : Str) (p : Nat) (sd : V) : List (Str × V) := [("kind", .str k), ("place", nV p), ("said", sd)]
def TokAt (A : Ad) (H : Hp) (t : Addr) (x : VaskyBase.PTok) : Prop := ∃ dx sd, H t = some (.ins A.tok dx (tokF (kindS x.tok) x.place sd)) ∧ SaidAt H x.tok sd
theorem SaidAt.mono {H H' : Hp} {x : VaskyBase.Tok} {v : V} (s : Same H H') (h : SaidAt H x v) : SaidAt H' x v := by
  cases x with
  | name b =>
    rcases h with h | ⟨q, e, h⟩
    · exact .inl h
    · exact .inr ⟨q, e, s _ _ h⟩
  | num n => exact h
  | sign c => trivial
  | last => trivial
theorem TokAt.mono {A : Ad} {H H' : Hp} {t : Addr} {x : VaskyBase.PTok} (s : Same H H') (h : TokAt A H t x) : TokAt A H' t x := by
  obtain ⟨dx, sd, h1, h2⟩ := h
  exact ⟨dx, sd, s _ _ h1, h2.mono s⟩
def ToksAt (A : Ad) (H : Hp) (T : Addr) (l : VaskyBase.Toks) : Prop := ∃ as : List Addr, H T = some (.lst (as.map V.ref)) ∧ All2 (TokAt A H) as l
theorem ToksAt.mono {A : Ad} {H H' : Hp} {T : Addr} {l : VaskyBase.Toks} (s : Same H H') (h : ToksAt A H T l) : ToksAt A H' T l := by
  obtain ⟨as, h1, h2⟩ := h
  exact ⟨as, s _ _ h1, h2.mono fun a x => TokAt.mono s⟩
/-- the places of S are taken -/
def Dom (S : Addr → Prop) (H : Hp) : Prop := ∀ a, S a → H a ≠ none
theorem Dom.mono {S : Addr → Prop} {H H' : Hp} (d : Dom S H) (s : Same H H') : Dom S H' := fun a h e => by
  cases q : H a with
  | none => exact d a h q
  | some o =>
    rw [s _ _ q] at e
    cases e
theorem Dom.new {S : Addr → Prop} {H : Hp} (d : Dom S H) {p : Addr} (hp : H p = none) : ¬ S p := fun h => d p h hp
theorem off_new {S : Addr → Prop} {H H' : Hp} (d : Dom S H) {p : Addr} (hp : H p = none) : off S H' p = H' p := off_of (d.new hp)
theorem Same.off {S : Addr → Prop} {H H' : Hp} (s : Same H H') : Same (off S H) (off S H') := (Same.b s).off
/-- a fault is wished for -/
def fE (A : Ad) (H : Hp) (E : XK) (c p : Nat) : Prop := ∀ H' d, Same H H' → H' d = some (.xd (fPairs (nV c) (nV p))) → E (.ref A.flt) (some d) H'
theorem fE.mono {A : Ad} {H H' : Hp} {E : XK} {c p : Nat} (s : Same H H') (h : fE A H E c p) : fE A H' E c p := fun H2 d s2 e => h H2 d (Same.trans s s2) e
theorem fE.at {A : Ad} {H : Hp} {E : XK} {c p : Nat} (h : fE A H E c p) {d : Addr} (hd : H d = none) : E (.ref A.flt) (some d) (upd H d (.xd (fPairs (nV c) (nV p)))) := h _ d (same_new hd) upd_same
/-- a new instance -/
def newI (H : Hp) (x dx C : Addr) (fs : List (Str × V)) : Hp := upd (upd (upd H dx (.own x)) x (.ins C dx [])) x (.ins C dx fs)
theorem newI_same {H : Hp} {x dx C : Addr} {fs : List (Str × V)} (nx : H x = none) (nd : H dx = none) : Same H (newI H x dx C fs) := made_same nx nd rfl
theorem newI_at {H : Hp} {x dx C : Addr} {fs : List (Str × V)} : newI H x dx C fs x = some (.ins C dx fs) := upd_same
section
variable {P : Program} {w : World} {K : PySem.W.Frag} {mg : Str → Option Value} {base : Heap} {A : Ad}
def spTokInit (A : Ad) : Sp := fun vs H Q _ => ∃ (x dx : Addr) (k p sd : V), vs = [.ref x, k, p, sd] ∧ H x = some (.ins A.tok dx []) ∧ Q .non (upd H x (.ins A.tok dx [("kind", k), ("place", p), ("said", sd)]))
abbrev s_Token_init : Stmt := inClass (top 27) 0
theorem sc_Token_init : FnScope ["self", "kind", "place", "said"] ["self", "kind", "place", "said"] (defScope s_Token_init) := ⟨rfl, rfl, rfl, by decide +kernel, rfl, by decide +kernel, by decide +kernel⟩
theorem m_Token (T : Txt K mg A) (D : In K mg "Token" A.tok "Token.__init__" s_Token_init ["self", "kind", "place", "said"]) : Ma P w K mg base 1 "Token" A.tok (spTokInit A) := by
  have sc := sc_Token_init
  refine D.ma sc (fun vs H Q E h => ?_) (fun f cdv Ar outer s H vs Q E hr h => ?_)
  · obtain ⟨x, dx, k, p, sd, rfl, _⟩ := h
    rfl
  · obtain ⟨x, dx, k, p, sd, rfl, hx, q⟩ := h
    refine ⟨_, (pss_cons (ps_fld (pv 0) (pv 1) rfl)
      (pss_cons (ps_fld (pv 0) (pv 2) rfl)
      (pss_one (ps_fld (pv 0) (pv 3) rfl)))), ?_⟩
    refine ⟨_, rfl, _, rfl, x, _, dx, _, rfl, hx, T.cT, T.nTk, by decide, _, rfl, _, rfl, x, _, dx, _, rfl, upd_same, T.cT, T.nTp, (by show 1 < 1000; decide), _, rfl, _, rfl, x, _, dx, _, rfl, upd_same, T.cT, T.nTs, ?_, ?_⟩
    · rw [show putF "kind" k [] = ([("kind", k)] : List (Str × V)) from rfl, putF_tl (by decide +kernel)]
      show 2 < 1000
      decide
    · rw [upd_upd, upd_upd, show putF "kind" k [] = ([("kind", k)] : List (Str × V)) from rfl, putF_tl (by decide +kernel), putF_tl (by decide +kernel)]
      rw [show putF "place" p [] = ([("place", p)] : List (Str × V)) from rfl, putF_tl (by decide +kernel)]
      exact q
/-! ### word_or_name -/
/-- the outcome of a def that makes a token or refuses -/
def tokOut (A : Ad) (S : Addr → Prop) (H : Hp) (Q : VK) (E : XK) (place : Nat) : Option VaskyBase.Tok → Prop
  | none => fE A H E 2 place
  | some x => ∀ H' t, Same H H' → H t = none → TokAt A (off S H') t ⟨place, x⟩ → Q (.ref t) H'
theorem tokOut.mono {A : Ad} {S : Addr → Prop} {H H' : Hp} {Q : VK} {E : XK} {place : Nat} {o : Option VaskyBase.Tok} (s : Same H H') (h : tokOut A S H Q E place o) : tokOut A S H' Q E place o := by
  cases o with
  | none => exact fE.mono s h
  | some x => exact fun H2 t s2 n ht => h H2 t (Same.trans s s2) (s.free n) ht
/-- a token is made -/
theorem tok_made {S : Addr → Prop} {H : Hp} {Q : VK} {E : XK} {place : Nat} {x : VaskyBase.Tok} {sd : V} (d : Dom S H) (h : tokOut A S H Q E place (some x)) (hs : SaidAt (off S H) x sd) {t dx : Addr} (nt : H t = none) (nd : H dx = none) :
    spTokInit A [.ref t, .str (kindS x), nV place, sd] (upd (upd H dx (.own t)) t (.ins A.tok dx [])) (fun v H2 => v = .non ∧ Q (.ref t) H2) E0 := by
  refine ⟨t, dx, _, _, _, rfl, upd_same, rfl, ?_⟩
  have sm : Same H (newI H t dx A.tok (tokF (kindS x) place sd)) := newI_same nt nd
  refine h (newI H t dx A.tok (tokF (kindS x) place sd)) t sm nt ⟨dx, sd, ?_, hs.mono (Same.off sm)⟩
  rw [off_new d nt]
  exact newI_at
def spWordName (A : Ad) : Sp := fun vs H Q E => ∃ (q : Addr) (place : Nat) (piece : Bytes) (S : Addr → Prop), vs = [.ref q, nV place] ∧ Dom S H ∧ off S H q = some (.lst (piece.map bV)) ∧ piece.length ≤ 5000 ∧
  tokOut A S H Q E place (if 16 < piece.length then none else some (.name piece))
theorem bytes_ints (bs : Bytes) : bs.map bV = (bs.map fun c => (c.toNat : Int)).map V.int := by
  rw [List.map_map]
  rfl
theorem nats_ints (ns : List Nat) : ns.map nV = (ns.map fun c : Nat => (c : Int)).map V.int := by
  rw [List.map_map]
  rfl
theorem word_eq {piece : Bytes} {z : Str} : decide ((piece.map fun c => (c.toNat : Int)) = (z.cps.toList.map fun c : Nat => (c : Int))) = decide (piece.map UInt8.toNat = z.cps.toList) := by
  refine decide_eq_decide.mpr ⟨fun e => ?_, fun e => ?_⟩
  · have h : ∀ l m : List Nat, (l.map fun c : Nat => (c : Int)) = (m.map fun c : Nat => (c : Int)) → l = m := fun l m hh => by
      have := congrArg (List.map Int.toNat) hh
      simpa [List.map_map, Function.comp_def] using this
    refine h _ _ ?_
    rw [List.map_map]
    exact e
  · rw [← e, List.map_map]
    rfl
def wordsL : List Str := ["measures", "up", "down", "item"]
theorem words_map : (wordsL.map V.str) = [.str "measures", .str "up", .str "down", .str "item"] := rfl
theorem reserved_iff {piece : Bytes} : RESERVED.contains piece = true ↔ ∃ z ∈ wordsL, piece.map UInt8.toNat = z.cps.toList := by
  have e : wordsL.map (fun z : Str => z.cps.toList) = RESERVED.map (fun b => b.map UInt8.toNat) := by decide +kernel
  rw [List.contains_iff_mem]
  constructor
  · intro h
    have h2 : piece.map UInt8.toNat ∈ RESERVED.map (fun b => b.map UInt8.toNat) := List.mem_map.mpr ⟨piece, h, rfl⟩
    rw [← e] at h2
    obtain ⟨z, hz, e2⟩ := List.mem_map.mp h2
    exact ⟨z, hz, e2.symm⟩
  · rintro ⟨z, hz, e2⟩
    have h2 : z.cps.toList ∈ wordsL.map (fun z : Str => z.cps.toList) := List.mem_map.mpr ⟨z, hz, rfl⟩
    rw [e] at h2
    obtain ⟨b, hb, e3⟩ := List.mem_map.mp h2
    have e4 : piece = b := by
      have h3 : piece.map UInt8.toNat = b.map UInt8.toNat := e2.trans e3.symm
      have h5 := congrArg (List.map UInt8.ofNat) h3
      simpa [List.map_map, Function.comp_def] using h5
    rw [e4]
    exact hb
theorem words_small : ∀ z ∈ wordsL, z.cps.size ≤ 8 := by decide +kernel
abbrev s_word_or_name : Stmt := top 36
theorem sc_word_or_name : FnScope ["piece", "place", "word"] ["piece", "place"] (defScope s_word_or_name) := ⟨rfl, rfl, rfl, by decide +kernel, rfl, by decide +kernel, by decide +kernel⟩
theorem c_word_or_name (T : Txt K mg A) (c_bytes_of : Ca P w K mg base CX0 1 "bytes_of" spBytesOf) (MToken : Ma P w K mg base 1 "Token" A.tok (spTokInit A)) (D : Dn K mg "word_or_name" s_word_or_name ["piece", "place"]) : Ca P w K mg base (L2.CX P w) 3 "word_or_name" (spWordName A) := by
  have sc := sc_word_or_name
  refine D.cx sc (fun vs H Q E h => ?_) (fun f cdv Ar outer s H vs Q E hr h => ?_)
  · obtain ⟨q, place, piece, S, rfl, _⟩ := h
    rfl
  · obtain ⟨q, place, piece, S, rfl, d, hq, hl, out⟩ := h
    refine ⟨_, (pss_cons (ps_for (passes_of rfl) rfl (pi_tup (pe_gr rfl T.gWORDS)) (pg_name (i := 2) sc.nd rfl (Or.inl rfl)) (pss_one (ps_if (pt_cmpR (op_eqD hr.units) (pv 0) (pe_ca c_bytes_of hr (pa_cons (pv 2) pa_nil)) (nomark _)) (pss_one (ps_ret (pe_ma MToken hr (pa_cons (pv 2) (pa_cons (pv 1) (pa_cons pe_non pa_nil)))))) pss_nil)))
      (pss_cons (ps_if (pt_cmpR op_gt (pe_callB call_len_seq (by rfl) T.len PySem.boot_len (pa_cons (pv 0) pa_nil)) (pe_gi rfl T.gMOST_NAME_BYTES) (nomark _)) (pss_one (ps_raiseFlt rfl T.flt hr (takes_of rfl rfl rfl rfl) (pa_cons pe_int (pa_cons (pv 1) pa_nil)))) pss_nil)
      (pss_one (ps_ret (pe_ma MToken hr (pa_cons pe_str (pa_cons (pv 1) (pa_cons (pv 0) pa_nil)))))))), ?_⟩
    have hq0 : H q = some (.lst (piece.map bV)) := off_same _ _ hq
    refine ⟨A.wds, rfl, ⟨_, T.wds _⟩, for_tup (K := K) (a := A.wds) (xs := [.str "measures", .str "up", .str "down", .str "item"]) (fun k σ H' => ∃ v, σ = [some (.ref q), some (nV place), v] ∧ Same H H' ∧ ∀ z ∈ wordsL.take k, ¬ piece.map UInt8.toNat = z.cps.toList)
      ⟨none, rfl, fun _ _ e => e, fun z hz => by cases hz⟩ (fun _ _ _ _ _ => T.wds _) ?_ ?_⟩
    · rintro k y σ H' hy ⟨v, rfl, sm, hn⟩
      rw [← words_map] at hy
      obtain ⟨z, hz, rfl⟩ := map_get hy
      have hzm := List.mem_of_getElem? hz
      have hz8 := words_small z hzm
      refine ⟨_, rfl, _, rfl, z, rfl, by omega, fun H2 c s2 nc hc => ?_⟩
      have sm2 := Same.trans sm s2
      have hq2 := sm2 _ _ hq0
      rw [bytes_ints] at hq2
      rw [nats_ints] at hc
      refine ⟨_, _, dp_ints hq2, dp_ints hc, shaped_ints _, shaped_ints _, _, rfl, ?_⟩
      rw [eqv_ints, word_eq]
      by_cases hp : piece.map UInt8.toNat = z.cps.toList
      · rw [decide_eq_true hp]
        have hr2 : RESERVED.contains piece = true := reserved_iff.mpr ⟨z, hzm, hp⟩
        have hpl : piece.length ≤ 8 := by
          have h1 := congrArg List.length hp
          have h0 : z.cps.toList.length = z.cps.size := Array.length_toList
          rw [List.length_map] at h1
          omega
        rw [if_neg (by omega)] at out
        have ek : kindS (.name piece) = z := by
          show (if RESERVED.contains piece = true then _ else _) = z
          rw [if_pos hr2, hp]
        refine iteT ⟨_, rfl, _, rfl, fun t dx nt nd ne => ?_⟩
        have := tok_made (A := A) (sd := .non) (d.mono sm2) (out.mono sm2) (x := .name piece) (.inl hr2) nt nd
        rw [ek] at this
        exact this
      · rw [decide_eq_false hp]
        refine iteF ⟨_, rfl, sm2, fun z' hz' => ?_⟩
        rw [take_snoc hz, List.mem_append] at hz'
        rcases hz' with h | h
        · exact hn z' h
        · rw [List.mem_singleton.mp h]
          exact hp
    · rintro σ H' ⟨v, rfl, sm, hn⟩
      have hnr : ¬ RESERVED.contains piece = true := fun h => by
        obtain ⟨z, hz, e⟩ := reserved_iff.mp h
        exact hn z hz e
      refine ⟨_, rfl, q, _, rfl, .inl (SqL.of (sm _ _ hq0)), _, 16, rfl, rfl, _, rfl, ?_⟩
      rw [List.length_map]
      by_cases h16 : 16 < piece.length
      · rw [if_pos h16] at out
        rw [decide_eq_true (show (16 : Int) < (piece.length : Int) by omega)]
        exact iteT ⟨_, rfl, _, _, rfl, fun dd nd => (fE.mono sm out).at nd⟩
      · rw [if_neg h16] at out
        rw [decide_eq_false (show ¬ (16 : Int) < (piece.length : Int) by omega)]
        refine iteF ⟨_, rfl, _, rfl, fun t dx nt nd ne => ?_⟩
        have ek : kindS (.name piece) = "name" := by
          show (if RESERVED.contains piece = true then _ else _) = _
          rw [if_neg hnr]
        have := tok_made (A := A) (sd := .ref q) (d.mono sm) (out.mono sm) (x := .name piece) (.inr ⟨q, rfl, Same.off sm _ _ hq⟩) nt nd
        rw [ek] at this
        exact this
end
end Ub
namespace Ub
open PySem PySem.Spec PyProof.Rows L2
open VaskyBase (Bytes word isDigit isLetter isBlank tokens numberOf decimal RESERVED)
section
variable {P : Program} {w : World} {K : PySem.W.Frag} {mg : Str → Option Value} {base : Heap} {A : Ad}
/-! ### number_token -/
def spNumTok (A : Ad) : Sp := fun vs H Q E => ∃ (q : Addr) (place : Nat) (piece : Bytes) (b : UInt8) (r : Bytes) (S : Addr → Prop), vs = [.ref q, nV place] ∧ Dom S H ∧ H q = some (.lst (piece.map bV)) ∧ piece = b :: r ∧ Digits piece ∧
  tokOut A S H Q E place ((numberOf piece).map VaskyBase.Tok.num)
abbrev s_number_token : Stmt := top 37
theorem sc_number_token : FnScope ["digits", "place", "worth", "digit", "needless_zero"] ["digits", "place"] (defScope s_number_token) := ⟨rfl, rfl, rfl, by decide +kernel, rfl, by decide +kernel, by decide +kernel⟩
theorem c_number_token (T : Txt K mg A) (MToken : Ma P w K mg base 1 "Token" A.tok (spTokInit A)) (D : Dn K mg "number_token" s_number_token ["digits", "place"]) : Ca P w K mg base (L2.CX P w) 3 "number_token" (spNumTok A) := by
  have sc := sc_number_token
  refine D.cx sc (fun vs H Q E h => ?_) (fun f cdv Ar outer s H vs Q E hr h => ?_)
  · obtain ⟨q, place, piece, b, r, S, rfl, _⟩ := h
    rfl
  · obtain ⟨q, place, piece, b, r, S, rfl, d, hq, hpc, hd, out⟩ := h
    refine ⟨_, (pss_cons (ps_set (i := 2) sc.nd rfl (Or.inl rfl) pe_int)
      (pss_cons (ps_for (passes_of rfl) rfl (pi_list (pv 0)) (pg_name (i := 3) sc.nd rfl (Or.inl rfl)) (pss_one (ps_set (i := 2) sc.nd rfl (Or.inl rfl) (pe_op op_sub (pe_op op_add (pe_op op_mul (pv 2) pe_int) (pv 3)) (pe_callB call_ord (by rfl) T.ord (by decide +kernel) (pa_cons pe_str pa_nil))))))
      (pss_cons (ps_set (i := 4) sc.nd rfl (Or.inl rfl) (pe_and (pe_cmpR op_gt (pe_callB call_len_seq (by rfl) T.len PySem.boot_len (pa_cons (pv 0) pa_nil)) pe_int (nomark _)) (pe_one (pe_cmpR op_eq (pe_ix ix_list (pv 0) pe_int (fun _ _ => rfl)) (pe_callB call_ord (by rfl) T.ord (by decide +kernel) (pa_cons pe_str pa_nil)) (nomark _)))))
      (pss_cons (ps_if (PW.pt (pw_or (pt_val (pv 4)) (pw_or1 (pt_cmpR op_gt (pv 2) (pe_gi rfl T.gMOST_NUMBER) (nomark _))))) (pss_one (ps_raiseFlt rfl T.flt hr (takes_of rfl rfl rfl rfl) (pa_cons pe_int (pa_cons (pv 1) pa_nil)))) pss_nil)
      (pss_one (ps_ret (pe_ma MToken hr (pa_cons pe_str (pa_cons (pv 1) (pa_cons (pv 2) pa_nil)))))))))), ?_⟩
    refine ⟨_, rfl, q, rfl, ⟨_, SqL.of hq⟩, for_list (K := K) (a := q) (xs := piece.map bV) (fun k σ H' => ∃ v, σ = [some (.ref q), some (nV place), some (nV (decimal (piece.take k))), v, none] ∧ H' = H)
      ⟨none, rfl, rfl⟩ (fun k σ H' _ ⟨_, _, e⟩ => by rw [e]; exact SqL.of hq) ?_ ?_⟩
    · rintro k y σ H' hy ⟨v, rfl, rfl⟩
      obtain ⟨c, hc, rfl⟩ := map_get hy
      have hc1 := dig_range (hd c (List.mem_of_getElem? hc))
      refine ⟨_, rfl, _, _, rfl, rfl, .inr ⟨by decide, by decide⟩, _, rfl, _, _, rfl, rfl, _, rfl, rfl, _, _, rfl, rfl, some (bV c), ?_, rfl⟩
      rw [take_snoc hc, decimal_snoc]
      show [_, _, some (V.int _), _, _] = [_, _, some (V.int _), _, _]
      have e : ((decimal (piece.take k) : Nat) : Int) * 10 + (c.toNat : Int) - ((48 : Nat) : Int) = ((10 * decimal (piece.take k) + (c.toNat - 48) : Nat) : Int) := by omega
      rw [← e]
      rfl
    · rintro σ H' ⟨v, rfl, rfl⟩
      rw [List.length_map, List.take_length]
      -- needless_zero
      have hb0 : piece[0]? = some b := by rw [hpc]; rfl
      have hbd : isDigit b = true := hd b (by rw [hpc]; exact List.mem_cons_self)
      have hnum := numberOf_is (b := b) (r := r) hbd
      rw [← hpc] at hnum
      rw [hnum] at out
      refine ⟨_, rfl, q, _, rfl, .inl (SqL.of hq), _, 1, rfl, rfl, _, rfl, ?_⟩
      rw [List.length_map]
      -- what follows the store
      have after : ∀ nz : Bool, nz = decide (1 < piece.length ∧ b = 48) → tIfS (tOr (tB (tVar 4)) (tTest (tOp (rI0 fun i j => .bl (decide (j < i))) (tVar 2) (tC (.int 1000000000)))))
          (tRaiseFlt A.flt (fun cls d _ H => E cls d H) (tCons (tC (.int 2)) (tCons (tVar 1) tNil))) tNext
          { nx := fun σ H => tRet (tMake A.tok (spTokInit A) [] E0 (tCons (tC (.str "number")) (tCons (tVar 1) (tCons (tVar 2) tNil)))) { nx := fun _ H' => Q .non H', rt := Q } σ H, rt := Q }
          [some (.ref q), some (nV place), some (nV (decimal piece)), v, some (.bl nz)] H' := fun nz hnz => by
        refine ⟨_, rfl, nz, rfl, ?_⟩
        by_cases hbad : (1 < piece.length ∧ b = 48) ∨ 1000000000 < decimal piece
        · rw [if_pos hbad] at out
          have ok : tRaiseFlt A.flt (fun cls d _ H => E cls d H) (tCons (tC (.int 2)) (tCons (tVar 1) tNil)) { nx := fun σ H => tRet (tMake A.tok (spTokInit A) [] E0 (tCons (tC (.str "number")) (tCons (tVar 1) (tCons (tVar 2) tNil)))) { nx := fun _ H' => Q .non H', rt := Q } σ H, rt := Q } [some (.ref q), some (nV place), some (nV (decimal piece)), v, some (.bl nz)] H' :=
            ⟨_, rfl, _, _, rfl, fun dd nd => fE.at out nd⟩
          cases nz with
          | true => exact iteT (iteT ok)
          | false =>
            refine iteF ⟨_, rfl, _, _, rfl, rfl, _, rfl, ?_⟩
            have h2 : 1000000000 < decimal piece := hbad.resolve_left (of_decide_eq_false hnz.symm)
            rw [decide_eq_true (show (1000000000 : Int) < (decimal piece : Int) by omega)]
            exact iteT ok
        · rw [if_neg hbad] at out
          have hnz0 : nz = false := by
            rw [hnz]
            exact decide_eq_false fun z => hbad (.inl z)
          subst hnz0
          refine iteF ⟨_, rfl, _, _, rfl, rfl, _, rfl, ?_⟩
          rw [decide_eq_false (show ¬ (1000000000 : Int) < (decimal piece : Int) from fun z => hbad (.inr (by omega)))]
          refine iteF ⟨_, rfl, _, rfl, fun t dx nt nd ne => ?_⟩
          exact tok_made (A := A) (sd := nV (decimal piece)) d out (x := .num (decimal piece)) rfl nt nd
      by_cases h1 : 1 < piece.length
      · rw [decide_eq_true (show (1 : Int) < (piece.length : Int) by omega)]
        refine iteT ⟨_, rfl, q, _, _, _, rfl, rfl, SqL.of hq, atI_nat (j := 0) (map_at hb0), _, rfl, rfl, rfl, ?_⟩
        refine after _ ?_
        rw [show decide (bV b = V.int (((Array.getD ("0" : Str).cps 0 0) : Nat) : Int)) = (b == 48) from byte_eq (c := b) (n := 48) (by decide), Bool.eq_iff_iff, beq_iff_eq, decide_eq_true_iff]
        exact ⟨fun z => ⟨h1, z⟩, fun z => z.2⟩
      · rw [decide_eq_false (show ¬ (1 : Int) < (piece.length : Int) by omega)]
        refine iteF (after _ ?_)
        exact (decide_eq_false fun z => h1 z.1).symm
/-! ### token_of -/
theorem sign_all : ∀ n : Nat, n < 256 → (VaskyBase.SIGNS.contains (UInt8.ofNat n) = true ∧ signAt (n : Int) = some ⟨#[n]⟩ ∧ isLetter (UInt8.ofNat n) = false ∧ isDigit (UInt8.ofNat n) = false) ∨ (VaskyBase.SIGNS.contains (UInt8.ofNat n) = false ∧ signAt (n : Int) = none) := by decide +kernel
theorem sign_cases (b : UInt8) : (VaskyBase.SIGNS.contains b = true ∧ signAt (b.toNat : Int) = some ⟨#[b.toNat]⟩ ∧ isLetter b = false ∧ isDigit b = false) ∨ (VaskyBase.SIGNS.contains b = false ∧ signAt (b.toNat : Int) = none) := by
  have h := sign_all b.toNat (UInt8.toNat_lt b)
  rw [UInt8.ofNat_toNat] at h
  exact h
def spTokOf (A : Ad) : Sp := fun vs H Q E => ∃ (q : Addr) (place : Nat) (piece : Bytes) (b : UInt8) (r : Bytes) (S : Addr → Prop), vs = [.ref q, nV place] ∧ Dom S H ∧ off S H q = some (.lst (piece.map bV)) ∧ piece = b :: r ∧ piece.length ≤ 5000 ∧
  (isLetter b = false → isDigit b = true → Digits piece) ∧ tokOut A S H Q E place (tokP piece)
abbrev s_token_of : Stmt := top 38
theorem sc_token_of : FnScope ["piece", "place"] ["piece", "place"] (defScope s_token_of) := ⟨rfl, rfl, rfl, by decide +kernel, rfl, by decide +kernel, by decide +kernel⟩
theorem c_token_of (T : Txt K mg A) (MToken : Ma P w K mg base 1 "Token" A.tok (spTokInit A)) (c_is_letter : Ca P w K mg base CX0 1 "is_letter" (spByte isLetter)) (c_is_digit : Ca P w K mg base CX0 1 "is_digit" (spByte isDigit))
    (c_word_or_name : Ca P w K mg base (L2.CX P w) 3 "word_or_name" (spWordName A)) (c_number_token : Ca P w K mg base (L2.CX P w) 3 "number_token" (spNumTok A)) (D : Dn K mg "token_of" s_token_of ["piece", "place"]) : Ca P w K mg base (L2.CX P w) 4 "token_of" (spTokOf A) := by
  have sc := sc_token_of
  refine D.cx sc (fun vs H Q E h => ?_) (fun f cdv Ar outer s H vs Q E hr h => ?_)
  · obtain ⟨q, place, piece, b, r, S, rfl, _⟩ := h
    rfl
  · obtain ⟨q, place, piece, b, r, S, rfl, d, hq, hpc, hl, hdig, out⟩ := h
    have hx : Passes (L2.CX P w) (cxOf (L2.CX P w) P w K mg base ["piece", "place"] "token_of" (defScope s_token_of) f cdv Ar outer s H E) E := passes_call (takes_of rfl rfl rfl rfl) (fun _ _ _ _ h => h)
    refine ⟨_, (pss_cons (ps_if (pt_cmpR op_in_num (pe_ix ix_list (pv 0) pe_int (fun _ _ => rfl)) (pe_gr rfl T.gSIGNS) (by rfl)) (pss_one (ps_ret (pe_ma MToken hr (pa_cons (pe_ix ix_num (pe_gr rfl T.gSIGNS) (pe_ix ix_list (pv 0) pe_int (fun _ _ => rfl)) (fun _ _ => rfl)) (pa_cons (pv 1) (pa_cons pe_non pa_nil)))))) pss_nil)
      (pss_cons (ps_if (pt_val (pe_ca c_is_letter hr (pa_cons (pe_ix ix_list (pv 0) pe_int (fun _ _ => rfl)) pa_nil))) (pss_one (ps_ret (pe_cx c_word_or_name hr hx (pa_cons (pv 0) (pa_cons (pv 1) pa_nil))))) pss_nil)
      (pss_cons (ps_if (pt_val (pe_ca c_is_digit hr (pa_cons (pe_ix ix_list (pv 0) pe_int (fun _ _ => rfl)) pa_nil))) (pss_one (ps_ret (pe_cx c_number_token hr hx (pa_cons (pv 0) (pa_cons (pv 1) pa_nil))))) pss_nil)
      (pss_one (ps_raiseFlt rfl T.flt hr (takes_of rfl rfl rfl rfl) (pa_cons pe_int (pa_cons (pv 1) pa_nil))))))), ?_⟩
    have hq0 : H q = some (.lst (piece.map bV)) := off_same _ _ hq
    have hb0 : (piece.map bV)[0]? = some (bV b) := by rw [hpc]; rfl
    have etok : tokP piece = (if isLetter b = true then (if 16 < piece.length then none else some (.name piece)) else if isDigit b = true then (numberOf piece).map VaskyBase.Tok.num else if VaskyBase.SIGNS.contains b = true then some (.sign b.toNat) else none) := by
      rw [hpc]
      rfl
    rw [etok] at out
    obtain ⟨sf, hN, hsf⟩ := T.sig
    have hsb := hsf (b.toNat : Int)
    refine ⟨_, rfl, q, _, _, _, rfl, rfl, SqL.of hq0, atI_nat (j := 0) hb0, (b.toNat : Int), A.sig, sf, rfl, rfl, hN, _, rfl, ?_⟩
    rcases sign_cases b with ⟨h1, h2, h3, h4⟩ | ⟨h1, h2⟩
    · rw [if_neg (by rw [h3]; exact Bool.false_ne_true), if_neg (by rw [h4]; exact Bool.false_ne_true), if_pos h1] at out
      rw [h2] at hsb
      obtain ⟨u, hu, ru⟩ := hsb
      rw [hu]
      refine iteT ⟨_, rfl, q, _, _, _, rfl, rfl, SqL.of hq0, atI_nat (j := 0) hb0, A.sig, (b.toNat : Int), sf, u, _, rfl, rfl, hN, hu, ru, _, rfl, fun t dx nt nd ne => ?_⟩
      exact tok_made (A := A) (sd := .non) d out (x := .sign b.toNat) trivial nt nd
    · rw [if_neg (c := VaskyBase.SIGNS.contains b = true) (by rw [h1]; exact Bool.false_ne_true)] at out
      rw [h2] at hsb
      have hsb' : sf (b.toNat : Int) = none := hsb
      rw [hsb']
      refine iteF ⟨_, rfl, q, _, _, _, rfl, rfl, SqL.of hq0, atI_nat (j := 0) hb0, b, rfl, _, rfl, ?_⟩
      cases hlt : isLetter b with
      | true =>
        rw [if_pos hlt] at out
        exact iteT ⟨_, rfl, _, rfl, q, place, piece, S, rfl, d, hq, hl, out⟩
      | false =>
        rw [if_neg (by rw [hlt]; exact Bool.false_ne_true)] at out
        refine iteF ⟨_, rfl, q, _, _, _, rfl, rfl, SqL.of hq0, atI_nat (j := 0) hb0, b, rfl, _, rfl, ?_⟩
        cases hdg : isDigit b with
        | true =>
          rw [if_pos hdg] at out
          exact iteT ⟨_, rfl, _, rfl, q, place, piece, b, r, S, rfl, d, hq0, hpc, hdig hlt hdg, out⟩
        | false =>
          rw [if_neg (by rw [hdg]; exact Bool.false_ne_true)] at out
          exact iteF ⟨_, rfl, _, _, rfl, fun dd nd => fE.at out nd⟩
end
end Ub
namespace Ub
open PySem PySem.Spec PyProof.Rows L2
open VaskyBase (Bytes word isDigit isLetter isBlank tokens numberOf decimal RESERVED)
section
variable {P : Program} {w : World} {K : PySem.W.Frag} {mg : Str → Option Value} {base : Heap} {A : Ad}
/-! ### tokens_of -/
theorem cut_mid {xs : List V} {i n : Nat} (h : i + n ≤ xs.length) : cutV xs (some (i : Int)) (some ((i + n : Nat) : Int)) = (xs.drop i).take n := by
  unfold cutV
  rw [show HT.sIx xs.length 0 (some ((i : Nat) : Int)) = min i xs.length from HT.sIx_nat xs.length 0 i, show HT.sIx xs.length xs.length (some ((i + n : Nat) : Int)) = min (i + n) xs.length from HT.sIx_nat xs.length xs.length (i + n), Nat.min_eq_left (show i ≤ xs.length by omega), Nat.min_eq_left h]
  congr 1
  omega
/-- the outcome of a def that reads -/
def readOut {α : Type} (A : Ad) (H : Hp) (E : XK) (ok : α → Prop) : Except VaskyBase.Fault α → Prop
  | .error f => fE A H E f.code f.place
  | .ok x => ok x
def spTokens (A : Ad) : Sp := fun vs H Q E => ∃ (a : Addr) (bs : Bytes) (S : Addr → Prop), vs = [.ref a] ∧ H a = some (.lst (bs.map bV)) ∧ Dom S H ∧
  readOut A H E (fun l => ∀ H' T, Same H H' → H T = none → ToksAt A (off S H') T l → Q (.ref T) H') (tokens bs)
abbrev s_tokens_of : Stmt := top 39
theorem sc_tokens_of : FnScope ["text", "tokens", "at", "past"] ["text"] (defScope s_tokens_of) := ⟨rfl, rfl, rfl, by decide +kernel, rfl, by decide +kernel, by decide +kernel⟩
theorem c_tokens_of (T : Txt K mg A) (MToken : Ma P w K mg base 1 "Token" A.tok (spTokInit A)) (c_skip_gap : Ca P w K mg base CX0 2 "skip_gap" spSkip) (c_token_end : Ca P w K mg base CX0 4 "token_end" spTokEnd)
    (c_token_of : Ca P w K mg base (L2.CX P w) 4 "token_of" (spTokOf A)) (D : Dn K mg "tokens_of" s_tokens_of ["text"]) : Ca P w K mg base (L2.CX P w) 5 "tokens_of" (spTokens A) := by
  have sc := sc_tokens_of
  refine D.cx sc (fun vs H Q E h => ?_) (fun f cdv Ar outer s H vs Q E hr h => ?_)
  · obtain ⟨a, bs, S, rfl, _⟩ := h
    rfl
  · obtain ⟨a, bs, S, rfl, ha, d, out⟩ := h
    have hx : Passes (L2.CX P w) (cxOf (L2.CX P w) P w K mg base ["text", "tokens", "at", "past"] "tokens_of" (defScope s_tokens_of) f cdv Ar outer s H E) E := passes_call (takes_of rfl rfl rfl rfl) (fun _ _ _ _ h => h)
    refine ⟨_, (pss_cons (ps_if (pt_cmpR op_gt (pe_callB call_len_seq (by rfl) T.len PySem.boot_len (pa_cons (pv 0) pa_nil)) (pe_gi rfl T.gMOST_BYTES) (nomark _)) (pss_one (ps_raiseFlt rfl T.flt hr (takes_of rfl rfl rfl rfl) (pa_cons pe_int (pa_cons (pe_gi rfl T.gMOST_BYTES) pa_nil)))) pss_nil)
      (pss_cons (ps_set (i := 1) sc.nd rfl (Or.inl rfl) (pe_lst pa_nil))
      (pss_cons (ps_set (i := 2) sc.nd rfl (Or.inl rfl) (pe_ca c_skip_gap hr (pa_cons (pv 0) (pa_cons pe_int pa_nil))))
      (pss_cons (ps_while (passes_of rfl) (pt_cmpR op_lt (pv 2) (pe_callB call_len_seq (by rfl) T.len PySem.boot_len (pa_cons (pv 0) pa_nil)) (nomark _)) (pss_cons (ps_set (i := 3) sc.nd rfl (Or.inl rfl) (pe_ca c_token_end hr (pa_cons (pv 0) (pa_cons (pv 2) pa_nil))))
      (pss_cons (ps_expr (pe_bm PySem.F.plainAttrs_list PySem.F.slot_list_append PySem.F.type_list_append mt_append (pv 1) (pa_cons (pe_cx c_token_of hr hx (pa_cons (pe_slice sl_list (pv 0) (po_some (pv 2)) (po_some (pv 3))) (pa_cons (pv 2) pa_nil))) pa_nil)))
      (pss_one (ps_set (i := 2) sc.nd rfl (Or.inl rfl) (pe_ca c_skip_gap hr (pa_cons (pv 0) (pa_cons (pv 3) pa_nil))))))))
      (pss_cons (ps_expr (pe_bm PySem.F.plainAttrs_list PySem.F.slot_list_append PySem.F.type_list_append mt_append (pv 1) (pa_cons (pe_ma MToken hr (pa_cons pe_str (pa_cons (pe_callB call_len_seq (by rfl) T.len PySem.boot_len (pa_cons (pv 0) pa_nil)) (pa_cons pe_non pa_nil)))) pa_nil)))
      (pss_one (ps_ret (pv 1)))))))), ?_⟩
    rw [tokens_is] at out
    refine ⟨_, rfl, a, _, rfl, .inl (SqL.of ha), _, 4096, rfl, rfl, _, rfl, ?_⟩
    rw [List.length_map]
    by_cases hbig : 4096 < bs.length
    · rw [if_pos hbig] at out
      rw [decide_eq_true (show (4096 : Int) < (bs.length : Int) by omega)]
      exact iteT ⟨_, _, rfl, fun dd nd => fE.at out nd⟩
    · rw [if_neg hbig] at out
      rw [decide_eq_false (show ¬ (4096 : Int) < (bs.length : Int) by omega)]
      -- tokens = []; at = skip_gap(text, 0)
      refine iteF ⟨Nat.zero_le _, fun T' nT => ?_⟩
      have s1 : Same H (upd H T' (.lst [])) := same_new nT
      have naT : a ≠ T' := ne_of_none ha nT
      refine ⟨_, rfl, a, bs, 0, rfl, s1 _ _ ha, Nat.zero_le _, ?_⟩
      rw [Nat.zero_add, List.drop_zero]
      have hgap := gap_le bs
      -- the loop
      refine ⟨fun m σ H' => ∃ (i : Nat) (ts : VaskyBase.Toks) (as : List Addr) (v3 : Option V), σ = [some (.ref a), some (.ref T'), some (nV i), v3] ∧ Same H H' ∧ H' T' = some (.lst (as.map V.ref)) ∧ All2 (TokAt A (off (fun q => S q ∨ q = T') H')) as ts ∧ i ≤ bs.length ∧ Clear (bs.drop i) ∧
        lexF 0 bs = (lexF i (bs.drop i)).map (ts ++ ·) ∧ ts.length ≤ i ∧ m = bs.length - i, ⟨_, gap bs, [], [], none, rfl, s1, upd_same, All2.nil, hgap, gap_ok bs, ?_, Nat.zero_le _, rfl⟩, ?_⟩
      · rw [lexF_skip 0 bs, Nat.zero_add]
        cases lexF (gap bs) (bs.drop (gap bs)) <;> rfl
      · rintro m σ H' ⟨i, ts, as, v3, rfl, sm, hT, hA, hi, hcl, hE, hlen, rfl⟩
        refine ⟨_, rfl, _, rfl, a, _, rfl, .inl (SqL.of (sm _ _ ha)), (i : Int), _, rfl, rfl, _, rfl, ?_⟩
        rw [List.length_map]
        have hasl : as.length = ts.length := hA.1
        by_cases hlt : i < bs.length
        · rw [decide_eq_true (show (i : Int) < (bs.length : Int) by omega)]
          have hb : bs[i]? = some bs[i] := List.getElem?_eq_getElem hlt
          have hd := drop_cons hb
          rw [hd] at hcl
          refine iteT ⟨fun σ' H2 => ∃ m', m' < bs.length - i ∧ ∃ (i : Nat) (ts : VaskyBase.Toks) (as : List Addr) (v3 : Option V), σ' = [some (.ref a), some (.ref T'), some (nV i), v3] ∧ Same H H2 ∧ H2 T' = some (.lst (as.map V.ref)) ∧ All2 (TokAt A (off (fun q => S q ∨ q = T') H2)) as ts ∧ i ≤ bs.length ∧ Clear (bs.drop i) ∧
            lexF 0 bs = (lexF i (bs.drop i)).map (ts ++ ·) ∧ ts.length ≤ i ∧ m' = bs.length - i, fun _ _ z => z, ?_⟩
          -- past = token_end(text, at)
          refine ⟨_, rfl, _, rfl, a, bs, i, rfl, sm _ _ ha, hlt, ?_⟩
          have htl : tokLen (bs.drop i) ≤ (bs.drop i).length := tokLen_le _
          rw [List.length_drop] at htl
          have htp : 1 ≤ tokLen (bs.drop i) := by
            rw [hd]
            exact tokLen_pos
          -- tokens.append(token_of(text[at:past], at))
          refine ⟨_, rfl, .inl ⟨rfl, _, SqL.of hT⟩, ?_⟩
          refine ⟨_, rfl, _, rfl, (i : Int), rfl, _, rfl, ((i + tokLen (bs.drop i) : Nat) : Int), rfl, a, _, rfl, SqL.of (sm _ _ ha), fun q nq => ?_⟩
          rw [cut_mid (by rw [List.length_map]; omega), ← List.map_drop, ← List.map_take]
          have sq : Same H' (upd H' q (.lst ((pieceOf (bs.drop i)).map bV))) := same_new nq
          have smq := Same.trans sm sq
          have dS : Dom (fun q => S q ∨ q = T') H' := fun x hx e => by
            rcases hx with h | h
            · exact (d.mono sm) x h e
            · rw [h, hT] at e
              cases e
          obtain ⟨r', hpc⟩ := piece_cons (b := bs[i]) (r := bs.drop (i + 1))
          rw [← hd] at hpc
          have hpl : (pieceOf (bs.drop i)).length ≤ 5000 := by
            unfold pieceOf
            refine Nat.le_trans (List.length_take_le' _ _) ?_
            rw [List.length_drop]
            omega
          refine ⟨_, rfl, q, i, pieceOf (bs.drop i), bs[i], r', (fun q => S q ∨ q = T'), rfl, dS.mono sq, ?_, hpc, hpl, fun l1 l2 => ?_, ?_⟩
          · rw [off_new dS nq]
            exact upd_same
          · rw [hd]
            exact piece_digits l1 l2
          · have hlx := lexF_piece (at_ := i) hcl
            rw [← hd] at hlx
            cases hp : tokP (pieceOf (bs.drop i)) with
            | none =>
              rw [hp] at hlx
              rw [hE, hlx] at out
              exact fE.mono smq out
            | some x =>
              rw [hp] at hlx
              intro H2 t s2 nt ht
              have smq2 := Same.trans smq s2
              have hT2 := s2 _ _ (sq _ _ hT)
              have hA2 : All2 (TokAt A (off (fun q => S q ∨ q = T') H2)) as ts := hA.mono fun _ _ z => z.mono (Same.off (Same.trans sq s2))
              refine ⟨T', _, _, rfl, rfl, hT2, ?_, ?_⟩
              · rw [List.length_map, sizeLine_eq]
                omega
              -- at = skip_gap(text, past)
              · have hput : off (fun q => S q ∨ q = T') (upd H2 T' (.lst (as.map V.ref ++ [.ref t]))) = off (fun q => S q ∨ q = T') H2 := by
                  funext x
                  by_cases hxS : S x ∨ x = T'
                  · unfold off
                    rw [if_pos hxS, if_pos hxS]
                  · rw [off_of hxS, off_of hxS, upd_ne fun z => hxS (.inr z)]
                have sm4 : Same H (upd H2 T' (.lst (as.map V.ref ++ [.ref t]))) := same_put smq2 nT
                refine ⟨_, rfl, _, rfl, a, bs, i + tokLen (bs.drop i), rfl, sm4 _ _ ha, by omega, ?_⟩
                have hg2 := gap_le (bs.drop (i + tokLen (bs.drop i)))
                rw [List.length_drop] at hg2
                have hc2 := gap_ok (bs.drop (i + tokLen (bs.drop i)))
                rw [List.drop_drop] at hc2
                refine ⟨bs.length - (i + tokLen (bs.drop i) + gap (bs.drop (i + tokLen (bs.drop i)))), by omega, i + tokLen (bs.drop i) + gap (bs.drop (i + tokLen (bs.drop i))), ts ++ [⟨i, x⟩], as ++ [t], some (nV (i + tokLen (bs.drop i))), rfl, sm4, ?_, ?_, by omega, hc2, ?_, ?_, rfl⟩
                · rw [upd_same, List.map_append]
                  rfl
                · rw [hput]
                  exact All2.snoc hA2 ht
                · have hlx' : lexF i (bs.drop i) = (lexF (i + tokLen (bs.drop i)) ((bs.drop i).drop (tokLen (bs.drop i)))).map fun l => ⟨i, x⟩ :: l := hlx
                  rw [hE, hlx', List.drop_drop, lexF_skip (i + tokLen (bs.drop i)), List.drop_drop]
                  cases lexF (i + tokLen (bs.drop i) + gap (bs.drop (i + tokLen (bs.drop i)))) (bs.drop (i + tokLen (bs.drop i) + gap (bs.drop (i + tokLen (bs.drop i))))) with
                  | error e => rfl
                  | ok l =>
                    show Except.ok (ts ++ (⟨i, x⟩ :: l)) = Except.ok (ts ++ [⟨i, x⟩] ++ l)
                    rw [List.append_assoc]
                    rfl
                · rw [List.length_append, List.length_singleton]
                  omega
        · rw [decide_eq_false (show ¬ (i : Int) < (bs.length : Int) by omega)]
          have ei : i = bs.length := by omega
          subst ei
          rw [List.drop_length, lexF_nil] at hE
          rw [hE] at out
          -- tokens.append(Token("end", len(text), None))
          refine iteF ⟨_, rfl, .inl ⟨rfl, _, SqL.of hT⟩, _, rfl, a, _, rfl, .inl (SqL.of (sm _ _ ha)), fun t dx nt nd ne => ?_⟩
          rw [List.length_map]
          refine ⟨t, dx, _, _, _, rfl, upd_same, rfl, ?_⟩
          have sI : Same H' (newI H' t dx A.tok (tokF "end" bs.length .non)) := newI_same nt nd
          have hT2 := sI _ _ hT
          have ntT : T' ≠ t := ne_of_none hT nt
          refine ⟨T', _, _, rfl, rfl, hT2, ?_, _, rfl, ?_⟩
          · rw [List.length_map, sizeLine_eq]
            omega
          have dS0 : ¬ S T' := d.new nT
          have sm5 : Same H (upd (newI H' t dx A.tok (tokF "end" bs.length .non)) T' (.lst (as.map V.ref ++ [.ref t]))) := same_put (Same.trans sm sI) nT
          refine out _ T' sm5 nT ⟨as ++ [t], ?_, ?_⟩
          · rw [off_of dS0, upd_same, List.map_append]
            rfl
          · refine All2.snoc (hA.mono fun x y z => ?_) ⟨dx, .non, ?_, trivial⟩
            · refine z.mono fun b o e => ?_
              have hn := off_no e
              have e2 := off_same _ _ e
              rw [off_of fun z => hn (.inl z), upd_ne fun z => hn (.inr z)]
              exact sI _ _ e2
            · have ntS : ¬ S t := (d.mono sm).new nt
              rw [off_of ntS, upd_ne ntT.symm]
              exact newI_at
end
end Ub
namespace Ub
open PySem PySem.Spec PyProof.Rows L2
open VaskyBase (Bytes word RESERVED PTok Toks)
/-! ### kinds -/
theorem res_cases {b : Bytes} (h : RESERVED.contains b = true) : b = word "measures" ∨ b = word "up" ∨ b = word "down" ∨ b = word "item" := by
  rw [List.contains_iff_mem] at h
  simpa [RESERVED] using h
theorem kind_res {b : Bytes} (h : RESERVED.contains b = true) : kindS (.name b) = ⟨(b.map UInt8.toNat).toArray⟩ := by
  show (if RESERVED.contains b = true then _ else _) = _
  rw [if_pos h]
theorem kind_nm {b : Bytes} (h : RESERVED.contains b = false) : kindS (.name b) = "name" := by
  show (if RESERVED.contains b = true then _ else _) = _
  rw [if_neg (by rw [h]; exact Bool.false_ne_true)]
theorem one_ne {s : Str} {c : Nat} (h : s.cps.size ≠ 1) : (⟨#[c]⟩ : Str) ≠ s := fun e => h (by rw [← e]; rfl)
/-- what kind a token is, of the words and the others -/
inductive KindIs : VaskyBase.Tok → Str → Prop
  | measures : KindIs (.name (word "measures")) "measures"
  | up : KindIs (.name (word "up")) "up"
  | down : KindIs (.name (word "down")) "down"
  | item : KindIs (.name (word "item")) "item"
  | name (b : Bytes) (h : RESERVED.contains b = false) : KindIs (.name b) "name"
  | num (n : Nat) : KindIs (.num n) "number"
  | sign (c : Nat) : KindIs (.sign c) ⟨#[c]⟩
  | last : KindIs .last "end"
theorem kindIs (x : VaskyBase.Tok) : KindIs x (kindS x) := by
  cases x with
  | name b =>
    cases h : RESERVED.contains b with
    | true =>
      rw [kind_res h]
      rcases res_cases h with rfl | rfl | rfl | rfl
      · exact (by decide +kernel : (⟨((word "measures").map UInt8.toNat).toArray⟩ : Str) = "measures") ▸ .measures
      · exact (by decide +kernel : (⟨((word "up").map UInt8.toNat).toArray⟩ : Str) = "up") ▸ .up
      · exact (by decide +kernel : (⟨((word "down").map UInt8.toNat).toArray⟩ : Str) = "down") ▸ .down
      · exact (by decide +kernel : (⟨((word "item").map UInt8.toNat).toArray⟩ : Str) = "item") ▸ .item
    | false =>
      rw [kind_nm h]
      exact .name b h
  | num n => exact .num n
  | sign c => exact .sign c
  | last => exact .last
theorem sg_no {c : Nat} {s : Str} (e : (⟨#[c]⟩ : Str) = s) (h : s.cps.size ≠ 1 := by decide +kernel) : False := one_ne h e
theorem sg_no' {c : Nat} {s : Str} (e : s = (⟨#[c]⟩ : Str)) (h : s.cps.size ≠ 1 := by decide +kernel) : False := one_ne h e.symm
theorem kd_name {x : VaskyBase.Tok} : kindS x = "name" ↔ ∃ b, x = .name b ∧ RESERVED.contains b = false := by
  have r1 : RESERVED.contains (word "measures") = true := by decide +kernel
  have r2 : RESERVED.contains (word "up") = true := by decide +kernel
  have r3 : RESERVED.contains (word "down") = true := by decide +kernel
  have r4 : RESERVED.contains (word "item") = true := by decide +kernel
  have k := kindIs x
  generalize kindS x = s at k
  cases k with
  | measures => exact ⟨fun e => absurd e (by decide +kernel), fun ⟨b, e, h⟩ => by injection e with e; rw [← e, r1] at h; cases h⟩
  | up => exact ⟨fun e => absurd e (by decide +kernel), fun ⟨b, e, h⟩ => by injection e with e; rw [← e, r2] at h; cases h⟩
  | down => exact ⟨fun e => absurd e (by decide +kernel), fun ⟨b, e, h⟩ => by injection e with e; rw [← e, r3] at h; cases h⟩
  | item => exact ⟨fun e => absurd e (by decide +kernel), fun ⟨b, e, h⟩ => by injection e with e; rw [← e, r4] at h; cases h⟩
  | name b h => exact ⟨fun _ => ⟨b, rfl, h⟩, fun _ => rfl⟩
  | num n => exact ⟨fun e => absurd e (by decide +kernel), fun ⟨b, e, _⟩ => by cases e⟩
  | sign c => exact ⟨fun e => (sg_no e).elim, fun ⟨b, e, _⟩ => by cases e⟩
  | last => exact ⟨fun e => absurd e (by decide +kernel), fun ⟨b, e, _⟩ => by cases e⟩
theorem kd_num {x : VaskyBase.Tok} : kindS x = "number" ↔ ∃ n, x = .num n := by
  have k := kindIs x
  generalize kindS x = s at k
  cases k with
  | measures => exact ⟨fun e => absurd e (by decide +kernel), fun ⟨b, e⟩ => by cases e⟩
  | up => exact ⟨fun e => absurd e (by decide +kernel), fun ⟨b, e⟩ => by cases e⟩
  | down => exact ⟨fun e => absurd e (by decide +kernel), fun ⟨b, e⟩ => by cases e⟩
  | item => exact ⟨fun e => absurd e (by decide +kernel), fun ⟨b, e⟩ => by cases e⟩
  | name b h => exact ⟨fun e => absurd e (by decide +kernel), fun ⟨b, e⟩ => by cases e⟩
  | num n => exact ⟨fun _ => ⟨n, rfl⟩, fun _ => rfl⟩
  | sign c => exact ⟨fun e => (sg_no e).elim, fun ⟨b, e⟩ => by cases e⟩
  | last => exact ⟨fun e => absurd e (by decide +kernel), fun ⟨b, e⟩ => by cases e⟩
theorem kd_end {x : VaskyBase.Tok} : kindS x = "end" ↔ x = .last := by
  have k := kindIs x
  generalize kindS x = s at k
  cases k with
  | measures => exact ⟨fun e => absurd e (by decide +kernel), fun e => by cases e⟩
  | up => exact ⟨fun e => absurd e (by decide +kernel), fun e => by cases e⟩
  | down => exact ⟨fun e => absurd e (by decide +kernel), fun e => by cases e⟩
  | item => exact ⟨fun e => absurd e (by decide +kernel), fun e => by cases e⟩
  | name b h => exact ⟨fun e => absurd e (by decide +kernel), fun e => by cases e⟩
  | num n => exact ⟨fun e => absurd e (by decide +kernel), fun e => by cases e⟩
  | sign c => exact ⟨fun e => (sg_no e).elim, fun e => by cases e⟩
  | last => exact ⟨fun _ => rfl, fun _ => rfl⟩
theorem tokEq_name {a b : Bytes} : VaskyBase.tokEq (.name a) (.name b) = (a == b) := rfl
theorem kd_sign {x : VaskyBase.Tok} {c : Nat} : kindS x = ⟨#[c]⟩ ↔ VaskyBase.tokEq x (.sign c) = true := by
  have k := kindIs x
  generalize kindS x = s at k
  cases k with
  | measures => exact ⟨fun e => (sg_no' e).elim, fun e => by cases e⟩
  | up => exact ⟨fun e => (sg_no' e).elim, fun e => by cases e⟩
  | down => exact ⟨fun e => (sg_no' e).elim, fun e => by cases e⟩
  | item => exact ⟨fun e => (sg_no' e).elim, fun e => by cases e⟩
  | name b h => exact ⟨fun e => (sg_no' e).elim, fun e => by cases e⟩
  | num n => exact ⟨fun e => (sg_no' e).elim, fun e => by cases e⟩
  | sign d =>
    refine ⟨fun e => ?_, fun e => ?_⟩
    · have e2 : (#[d] : Array Nat) = #[c] := Str.mk.inj e
      have e3 : d = c := by simpa using e2
      exact beq_iff_eq.mpr e3
    · have e3 : d = c := beq_iff_eq.mp e
      rw [e3]
  | last => exact ⟨fun e => (sg_no' e).elim, fun e => by cases e⟩
theorem kd_word {x : VaskyBase.Tok} {s : String} (hs : s = "measures" ∨ s = "up" ∨ s = "down" ∨ s = "item") : kindS x = Str.ofString s ↔ VaskyBase.tokEq x (.name (word s)) = true := by
  have hres : RESERVED.contains (word s) = true := by rcases hs with rfl | rfl | rfl | rfl <;> decide +kernel
  have k := kindIs x
  generalize kindS x = z at k
  cases k with
  | measures => rcases hs with rfl | rfl | rfl | rfl <;> exact ⟨fun e => by first | (exact absurd e (by decide +kernel)) | decide +kernel, fun e => by first | (exact absurd e (by decide +kernel)) | rfl⟩
  | up => rcases hs with rfl | rfl | rfl | rfl <;> exact ⟨fun e => by first | (exact absurd e (by decide +kernel)) | decide +kernel, fun e => by first | (exact absurd e (by decide +kernel)) | rfl⟩
  | down => rcases hs with rfl | rfl | rfl | rfl <;> exact ⟨fun e => by first | (exact absurd e (by decide +kernel)) | decide +kernel, fun e => by first | (exact absurd e (by decide +kernel)) | rfl⟩
  | item => rcases hs with rfl | rfl | rfl | rfl <;> exact ⟨fun e => by first | (exact absurd e (by decide +kernel)) | decide +kernel, fun e => by first | (exact absurd e (by decide +kernel)) | rfl⟩
  | name b h =>
    refine ⟨fun e => ?_, fun e => ?_⟩
    · rcases hs with rfl | rfl | rfl | rfl <;> exact absurd e (by decide +kernel)
    · rw [tokEq_name] at e
      have := beq_iff_eq.mp e
      rw [this, hres] at h
      cases h
  | num n => exact ⟨fun e => by rcases hs with rfl | rfl | rfl | rfl <;> exact absurd e (by decide +kernel), fun e => by cases e⟩
  | sign c => exact ⟨fun e => by rcases hs with rfl | rfl | rfl | rfl <;> exact (sg_no e).elim, fun e => by cases e⟩
  | last => exact ⟨fun e => by rcases hs with rfl | rfl | rfl | rfl <;> exact absurd e (by decide +kernel), fun e => by cases e⟩
/-! ### the tokens end with the end -/
def EndsL : Toks → Prop
  | [] => False
  | t :: r => (t.tok = .last ∧ r = []) ∨ (t.tok ≠ .last ∧ EndsL r)
theorem EndsL.next {t : PTok} {r : Toks} (h : EndsL (t :: r)) (n : t.tok ≠ .last) : EndsL r := by
  rcases h with ⟨e, _⟩ | ⟨_, h⟩
  · exact absurd e n
  · exact h
theorem EndsL.cons {l : Toks} (h : EndsL l) : ∃ t r, l = t :: r := by
  cases l with
  | nil => exact h.elim
  | cons t r => exact ⟨t, r, rfl⟩
/-! ### the reader -/
def rdF (Tl : Addr) (i : Nat) : List (Str × V) := [("tokens", .ref Tl), ("at", nV i)]
/-- the reader at r, before the tokens l; S hides what changes, the reader among it -/
def RdAt (A : Ad) (S : Addr → Prop) (H : Hp) (r : Addr) (l : Toks) : Prop := S r ∧ ∃ dx Tl i L, H r = some (.ins A.rdr dx (rdF Tl i)) ∧ ToksAt A (off S H) Tl L ∧ L.drop i = l
/-- all but the reader stays -/
abbrev SameR (r : Addr) (H H' : Hp) : Prop := SameB (fun q => q = r) H H'
theorem SameR.dom {S : Addr → Prop} {H H' : Hp} {r : Addr} (d : Dom S H) (s : SameR r H H') (hr : H' r ≠ none) : Dom S H' := fun a h e => by
  by_cases ha : a = r
  · rw [ha] at e
    exact hr e
  · cases q : H a with
    | none => exact d a h q
    | some o =>
      rw [s _ _ ha q] at e
      cases e
theorem SameR.off {S : Addr → Prop} {H H' : Hp} {r : Addr} (s : SameR r H H') (hr : S r) : Same (off S H) (off S H') := (s.mono (fun a h => by rw [h]; exact hr)).off
theorem RdAt.there {A : Ad} {S : Addr → Prop} {H : Hp} {r : Addr} {l : Toks} (h : RdAt A S H r l) : H r ≠ none := by
  obtain ⟨_, dx, Tl, i, L, h, _⟩ := h
  rw [h]
  simp
/-- a step that leaves the reader too -/
theorem RdAt.same {A : Ad} {S : Addr → Prop} {H H' : Hp} {r : Addr} {l : Toks} (s : Same H H') (h : RdAt A S H r l) : RdAt A S H' r l := by
  obtain ⟨hr, dx, Tl, i, L, h1, h2, h3⟩ := h
  exact ⟨hr, dx, Tl, i, L, s _ _ h1, h2.mono (Same.off s), h3⟩
/-- hiding more -/
theorem RdAt.hide {A : Ad} {S S' : Addr → Prop} {H : Hp} {r : Addr} {l : Toks} (m : ∀ q, S q → S' q) (h : RdAt A S H r l) (hT : ∀ q o, S' q → ¬ S q → H q ≠ some o) : RdAt A S' H r l := by
  obtain ⟨hr, dx, Tl, i, L, h1, h2, h3⟩ := h
  refine ⟨m _ hr, dx, Tl, i, L, h1, h2.mono fun q o e => ?_, h3⟩
  have n := off_no e
  rw [off_of n] at e
  by_cases hq : S' q
  · exact absurd e (hT q o hq n)
  · rw [off_of hq]
    exact e
def fR (A : Ad) (r : Addr) (H : Hp) (E : XK) (c p : Nat) : Prop := ∀ H' d, SameR r H H' → H' d = some (.xd (fPairs (nV c) (nV p))) → E (.ref A.flt) (some d) H'
theorem fR.mono {A : Ad} {r : Addr} {H H' : Hp} {E : XK} {c p : Nat} (s : SameR r H H') (h : fR A r H E c p) : fR A r H' E c p := fun H2 d s2 e => h H2 d (s.trans s2) e
theorem fR.e {A : Ad} {r : Addr} {H : Hp} {E : XK} {c p : Nat} (h : fR A r H E c p) : fE A H E c p := fun H' d s e => h H' d (Same.b s) e
section
variable {P : Program} {w : World} {K : PySem.W.Frag} {mg : Str → Option Value} {base : Heap} {A : Ad}
/-! ### makers of two fields -/
def spInit2 (C : Addr) (f g : Str) : Sp := fun vs H Q _ => ∃ (x dx : Addr) (v u : V), vs = [.ref x, v, u] ∧ H x = some (.ins C dx []) ∧ Q .non (upd H x (.ins C dx [(f, v), (g, u)]))
theorem put2 {f g : Str} {v u : V} (h : (f == g) = false) : putF g u (putF f v []) = [(f, v), (g, u)] := by
  rw [show putF f v [] = ([(f, v)] : List (Str × V)) from rfl, putF_tl h]
  rfl
abbrev s_Measure_init : Stmt := inClass (top 44) 0
theorem sc_Measure_init : FnScope ["self", "name", "up"] ["self", "name", "up"] (defScope s_Measure_init) := ⟨rfl, rfl, rfl, by decide +kernel, rfl, by decide +kernel, by decide +kernel⟩
theorem m_Measure (T : Txt K mg A) (D : In K mg "Measure" A.mea "Measure.__init__" s_Measure_init ["self", "name", "up"]) : Ma P w K mg base 1 "Measure" A.mea (spInit2 A.mea "name" "up") := by
  have sc := sc_Measure_init
  refine D.ma sc (fun vs H Q E h => ?_) (fun f cdv Ar outer s H vs Q E hr h => ?_)
  · obtain ⟨x, dx, v, u, rfl, _⟩ := h
    rfl
  · obtain ⟨x, dx, v, u, rfl, hx, q⟩ := h
    refine ⟨_, (pss_cons (ps_fld (pv 0) (pv 1) rfl)
      (pss_one (ps_fld (pv 0) (pv 2) rfl))), ?_⟩
    refine ⟨_, rfl, _, rfl, x, _, dx, _, rfl, hx, T.cM, T.nMn, by decide, _, rfl, _, rfl, x, _, dx, _, rfl, upd_same, T.cM, T.nMu, (by show 1 < 1000; decide), ?_⟩
    rw [upd_upd, put2 (by decide +kernel)]
    exact q
abbrev s_Item_init : Stmt := inClass (top 45) 0
theorem sc_Item_init : FnScope ["self", "name", "row"] ["self", "name", "row"] (defScope s_Item_init) := ⟨rfl, rfl, rfl, by decide +kernel, rfl, by decide +kernel, by decide +kernel⟩
theorem m_Item (T : Txt K mg A) (D : In K mg "Item" A.itm "Item.__init__" s_Item_init ["self", "name", "row"]) : Ma P w K mg base 1 "Item" A.itm (spInit2 A.itm "name" "row") := by
  have sc := sc_Item_init
  refine D.ma sc (fun vs H Q E h => ?_) (fun f cdv Ar outer s H vs Q E hr h => ?_)
  · obtain ⟨x, dx, v, u, rfl, _⟩ := h
    rfl
  · obtain ⟨x, dx, v, u, rfl, hx, q⟩ := h
    refine ⟨_, (pss_cons (ps_fld (pv 0) (pv 1) rfl)
      (pss_one (ps_fld (pv 0) (pv 2) rfl))), ?_⟩
    refine ⟨_, rfl, _, rfl, x, _, dx, _, rfl, hx, T.cI, T.nIn, by decide, _, rfl, _, rfl, x, _, dx, _, rfl, upd_same, T.cI, T.nIr, (by show 1 < 1000; decide), ?_⟩
    rw [upd_upd, put2 (by decide +kernel)]
    exact q
abbrev s_Listing_init : Stmt := inClass (top 46) 0
theorem sc_Listing_init : FnScope ["self", "measures", "members"] ["self", "measures", "members"] (defScope s_Listing_init) := ⟨rfl, rfl, rfl, by decide +kernel, rfl, by decide +kernel, by decide +kernel⟩
theorem m_Listing (T : Txt K mg A) (D : In K mg "Listing" A.lst "Listing.__init__" s_Listing_init ["self", "measures", "members"]) : Ma P w K mg base 1 "Listing" A.lst (spInit2 A.lst "measures" "members") := by
  have sc := sc_Listing_init
  refine D.ma sc (fun vs H Q E h => ?_) (fun f cdv Ar outer s H vs Q E hr h => ?_)
  · obtain ⟨x, dx, v, u, rfl, _⟩ := h
    rfl
  · obtain ⟨x, dx, v, u, rfl, hx, q⟩ := h
    refine ⟨_, (pss_cons (ps_fld (pv 0) (pv 1) rfl)
      (pss_one (ps_fld (pv 0) (pv 2) rfl))), ?_⟩
    refine ⟨_, rfl, _, rfl, x, _, dx, _, rfl, hx, T.cL, T.nLm, by decide, _, rfl, _, rfl, x, _, dx, _, rfl, upd_same, T.cL, T.nLi, (by show 1 < 1000; decide), ?_⟩
    rw [upd_upd, put2 (by decide +kernel)]
    exact q
def spRdInit (A : Ad) : Sp := fun vs H Q _ => ∃ (x dx Tl : Addr), vs = [.ref x, .ref Tl] ∧ H x = some (.ins A.rdr dx []) ∧ Q .non (upd H x (.ins A.rdr dx (rdF Tl 0)))
abbrev s_Reader_init : Stmt := inClass (top 47) 0
theorem sc_Reader_init : FnScope ["self", "tokens"] ["self", "tokens"] (defScope s_Reader_init) := ⟨rfl, rfl, rfl, by decide +kernel, rfl, by decide +kernel, by decide +kernel⟩
theorem m_Reader (T : Txt K mg A) (D : In K mg "Reader" A.rdr "Reader.__init__" s_Reader_init ["self", "tokens"]) : Ma P w K mg base 1 "Reader" A.rdr (spRdInit A) := by
  have sc := sc_Reader_init
  refine D.ma sc (fun vs H Q E h => ?_) (fun f cdv Ar outer s H vs Q E hr h => ?_)
  · obtain ⟨x, dx, Tl, rfl, _⟩ := h
    rfl
  · obtain ⟨x, dx, Tl, rfl, hx, q⟩ := h
    refine ⟨_, (pss_cons (ps_fld (pv 0) (pv 1) rfl)
      (pss_one (ps_fld (pv 0) pe_int rfl))), ?_⟩
    refine ⟨_, rfl, _, rfl, x, _, dx, _, rfl, hx, T.cR, T.nRt, by decide, _, rfl, x, _, dx, _, rfl, upd_same, T.cR, T.nRa, (by show 1 < 1000; decide), ?_⟩
    rw [upd_upd, put2 (by decide +kernel)]
    exact q
/-! ### take -/
theorem inV_str (k : Str) (ks : List Str) : inV (.str k) (ks.map V.str) = ks.contains k := by
  unfold inV
  induction ks with
  | nil => rfl
  | cons x r ih =>
    rw [List.map_cons, List.any_cons, List.contains_cons, ih]
    congr 1
    show (x == k) = (k == x)
    rw [Bool.eq_iff_iff, beq_iff_eq, beq_iff_eq]
    exact ⟨Eq.symm, Eq.symm⟩
theorem flat_str (ks : List Str) : (ks.map V.str).all flatV = true := by
  rw [List.all_eq_true]
  intro x hx
  obtain ⟨n, _, rfl⟩ := List.mem_map.mp hx
  rfl
theorem lr_tokens {Tl : Addr} {i : Nat} : List.lookup ("tokens" : Str) (rdF Tl i) = some (.ref Tl) := lk_hd
theorem lr_at {Tl : Addr} {i : Nat} : List.lookup ("at" : Str) (rdF Tl i) = some (nV i) := lk_tl (by decide +kernel) lk_hd
theorem lr_take {Tl : Addr} {i : Nat} : List.lookup ("take" : Str) (rdF Tl i) = none := lk_tl (by decide +kernel) (lk_tl (by decide +kernel) lk_nil)
theorem lt_kind {k : Str} {p : Nat} {sd : V} : List.lookup ("kind" : Str) (tokF k p sd) = some (.str k) := lk_hd
theorem lt_place {k : Str} {p : Nat} {sd : V} : List.lookup ("place" : Str) (tokF k p sd) = some (nV p) := lk_tl (by decide +kernel) lk_hd
theorem lt_said {k : Str} {p : Nat} {sd : V} : List.lookup ("said" : Str) (tokF k p sd) = some sd := lk_tl (by decide +kernel) (lk_tl (by decide +kernel) lk_hd)
def spTake (K : PySem.W.Frag) (A : Ad) : Sp := fun vs H Q E => ∃ (r k : Addr) (ks : List Str) (t : PTok) (l : Toks) (S : Addr → Prop), vs = [.ref r, .ref k] ∧ SqT K H k (ks.map V.str) ∧ RdAt A S H r (t :: l) ∧
  if ks.contains (kindS t.tok) = true then ∀ H' a, SameR r H H' → RdAt A S H' r l → TokAt A (off S H') a t → Q (.ref a) H' else fR A r H E 3 t.place
theorem drop_next {L l : Toks} {t : PTok} {i : Nat} (h : L.drop i = t :: l) : L[i]? = some t ∧ L.drop (i + 1) = l := by
  have h1 : L[i]? = some t := by
    have := congrArg (fun z => z[0]?) h
    simpa [List.getElem?_drop] using this
  refine ⟨h1, ?_⟩
  rw [← List.drop_drop, h]
  rfl
abbrev s_Reader_take : Stmt := inClass (top 47) 1
theorem sc_Reader_take : FnScope ["self", "kinds", "token"] ["self", "kinds"] (defScope s_Reader_take) := ⟨rfl, rfl, rfl, by decide +kernel, rfl, by decide +kernel, by decide +kernel⟩
theorem c_take (T : Txt K mg A) (D : Mn K A.rdr "take" "Reader.take" s_Reader_take ["self", "kinds"]) : Me P w K mg base (L2.CX P w) 2 A.rdr "take" (spTake K A) := by
  have sc := sc_Reader_take
  refine D.mx sc (fun vs H Q E h => ?_) (fun f cdv Ar outer s H vs Q E hr h => ?_)
  · obtain ⟨r, k, ks, t, l, S, rfl, _⟩ := h
    rfl
  · obtain ⟨r, k, ks, t, l, S, rfl, hk, ⟨hS, dx, Tl, i, L, h1, ⟨as, hT, hA⟩, hL⟩, out⟩ := h
    refine ⟨_, (pss_cons (ps_set (i := 2) sc.nd rfl (Or.inl rfl) (pe_ix ix_list (pe_fld (pv 0) rfl) (pe_fld (pv 0) rfl) (fun _ _ => rfl)))
      (pss_cons (ps_if (pt_cmpR (r := rIn K true) op_notIn_seq (pe_fld (pv 2) rfl) (pv 1) (by rfl)) (pss_one (ps_raiseFlt rfl T.flt hr (takes_of rfl rfl rfl rfl) (pa_cons pe_int (pa_cons (pe_fld (pv 2) rfl) pa_nil)))) pss_nil)
      (pss_cons (ps_fldaug (pv 0) pe_int in_add)
      (pss_one (ps_ret (pv 2)))))), ?_⟩
    obtain ⟨hLi, hLd⟩ := drop_next hL
    obtain ⟨a, ha, hta⟩ := hA.get hLi
    obtain ⟨dt, sd, ht, hsd⟩ := id hta
    have hT0 := off_same _ _ hT
    have ht0 := off_same _ _ ht
    -- token = self.tokens[self.at]
    refine ⟨_, rfl, r, _, dx, _, _, rfl, h1, T.cR, T.nRt, lr_tokens, _, rfl, r, _, dx, _, _, rfl, h1, T.cR, T.nRa, lr_at, Tl, _, _, _, rfl, rfl, SqL.of hT0, atI_nat (map_at ha), ?_⟩
    -- if token.kind not in kinds
    refine ⟨_, rfl, a, _, dt, _, _, rfl, ht0, T.cT, T.nTk, lt_kind, _, rfl, k, _, rfl, .inr hk, rfl, flat_str ks, _, rfl, ?_⟩
    show if (!inV _ _) = true then _ else _
    rw [inV_str]
    cases hc : ks.contains (kindS t.tok) with
    | false =>
      rw [if_neg (by rw [hc]; exact Bool.false_ne_true)] at out
      exact iteT ⟨_, rfl, a, _, dt, _, _, rfl, ht0, T.cT, T.nTp, lt_place, _, _, rfl, fun dd nd => out.e.at nd⟩
    | true =>
      rw [if_pos hc] at out
      refine iteF ⟨_, rfl, r, _, dx, _, _, rfl, h1, T.cR, T.nRa, lr_at, _, _, rfl, rfl, dx, _, h1, (by show 2 < 1000; decide), ?_⟩
      have ep : putF "at" (V.int ((i : Int) + 1)) (rdF Tl i) = rdF Tl (i + 1) := by
        unfold rdF
        rw [putF_tl (by decide +kernel), putF_hd]
        rfl
      have eo : off S (upd H r (.ins A.rdr dx (putF "at" (V.int ((i : Int) + 1)) (rdF Tl i)))) = off S H := by
        funext x
        by_cases hx : S x
        · unfold off
          rw [if_pos hx, if_pos hx]
        · rw [off_of hx, off_of hx, upd_ne fun z => hx (by rw [z]; exact hS)]
      refine ⟨_, rfl, out _ a (sameB_upd rfl) ⟨hS, dx, Tl, i + 1, L, ?_, ?_, hLd⟩ ?_⟩
      · rw [upd_same, ep]
      · rw [eo]
        exact ⟨as, hT, hA⟩
      · rw [eo]
        exact hta
/-! ### check_new, check_room -/
/-- things with names -/
def NamedAt (K : PySem.W.Frag) (H : Hp) (a : Addr) (nm : Bytes) : Prop := ∃ C dx n fs, Cls K C ∧ NoAttr K C "name" ∧ H a = some (.ins C dx fs) ∧ fs.lookup ("name" : Str) = some (.ref n) ∧ H n = some (.lst (nm.map bV))
def spCheckNew (K : PySem.W.Frag) (A : Ad) : Sp := fun vs H Q E => ∃ (t e : Addr) (p : PTok) (b : Bytes) (as : List Addr) (nms : List Bytes), vs = [.ref t, .ref e] ∧ TokAt A H t p ∧ p.tok = .name b ∧ RESERVED.contains b = false ∧ H e = some (.lst (as.map V.ref)) ∧ All2 (NamedAt K H) as nms ∧
  if (nms.any fun n => n == b) = true then fE A H E 5 p.place else Q .non H
abbrev s_check_new : Stmt := top 48
theorem sc_check_new : FnScope ["token", "bearers", "bearer"] ["token", "bearers"] (defScope s_check_new) := ⟨rfl, rfl, rfl, by decide +kernel, rfl, by decide +kernel, by decide +kernel⟩
theorem ints_eq {a b : Bytes} : decide ((a.map fun c => (c.toNat : Int)) = (b.map fun c => (c.toNat : Int))) = (a == b) := by
  rw [Bool.eq_iff_iff, decide_eq_true_iff, beq_iff_eq]
  refine ⟨fun e => ?_, fun e => by rw [e]⟩
  have h5 := congrArg (List.map fun i : Int => UInt8.ofNat i.toNat) e
  simpa [List.map_map, Function.comp_def] using h5
theorem c_check_new (T : Txt K mg A) (D : Dn K mg "check_new" s_check_new ["token", "bearers"]) : Ca P w K mg base (L2.CX P w) 2 "check_new" (spCheckNew K A) := by
  have sc := sc_check_new
  refine D.cx sc (fun vs H Q E h => ?_) (fun f cdv Ar outer s H vs Q E hr h => ?_)
  · obtain ⟨t, e, p, b, as, nms, rfl, _⟩ := h
    rfl
  · obtain ⟨t, e, p, b, as, nms, rfl, ⟨dt, sd, ht, hsd⟩, hp, hres, he, hA, out⟩ := h
    refine ⟨_, (pss_one (ps_for (passes_of rfl) rfl (pi_list (pv 1)) (pg_name (i := 2) sc.nd rfl (Or.inl rfl)) (pss_one (ps_if (pt_cmpR (op_eqD hr.units) (pe_fld (pv 2) rfl) (pe_fld (pv 0) rfl) (nomark _)) (pss_one (ps_raiseFlt rfl T.flt hr (takes_of rfl rfl rfl rfl) (pa_cons pe_int (pa_cons (pe_fld (pv 0) rfl) pa_nil)))) pss_nil)))), ?_⟩
    rw [hp] at hsd
    obtain ⟨q, rfl, hq⟩ := hsd.resolve_left (by rw [hres]; exact Bool.false_ne_true)
    refine ⟨_, rfl, e, rfl, ⟨_, SqL.of he⟩, for_list (K := K) (a := e) (xs := as.map V.ref) (fun k σ H' => ∃ v, σ = [some (.ref t), some (.ref e), v] ∧ H' = H ∧ ((nms.take k).any fun n => n == b) = false)
      ⟨none, rfl, rfl, rfl⟩ (fun k σ H' _ ⟨_, _, e2, _⟩ => by rw [e2]; exact SqL.of he) ?_ ?_⟩
    · rintro k y σ H' hy ⟨v, rfl, rfl, hn⟩
      obtain ⟨a, ha, rfl⟩ := map_get hy
      obtain ⟨nm, hnm, C, dx, n, fs, cC, nC, h1, h2, h3⟩ := hA.getA ha
      refine ⟨_, rfl, a, C, dx, fs, _, rfl, h1, cC, nC, h2, _, rfl, t, _, dt, _, _, rfl, ht, T.cT, T.nTs, lt_said, ?_⟩
      rw [bytes_ints] at h3 hq
      refine ⟨_, _, dp_ints h3, dp_ints hq, shaped_ints _, shaped_ints _, _, rfl, ?_⟩
      rw [eqv_ints, ints_eq]
      cases hb : (nm == b) with
      | true =>
        rw [if_pos (List.any_eq_true.mpr ⟨nm, List.mem_of_getElem? hnm, hb⟩)] at out
        exact iteT ⟨_, rfl, t, _, dt, _, _, rfl, ht, T.cT, T.nTp, lt_place, _, _, rfl, fun dd nd => out.at nd⟩
      | false =>
        refine iteF ⟨_, rfl, rfl, ?_⟩
        rw [take_snoc hnm, List.any_append, hn]
        show (false || ((nm == b) || false)) = false
        rw [hb] <;> rfl
    · rintro σ H' ⟨v, rfl, rfl, hn⟩
      rw [List.length_map, hA.1, List.take_length] at hn
      rw [if_neg (by rw [hn]; exact Bool.false_ne_true)] at out
      exact out
def spCheckRoom (A : Ad) : Sp := fun vs H Q E => ∃ (t e : Addr) (p : PTok) (xs : List V) (n : Nat), vs = [.ref t, .ref e, nV n] ∧ TokAt A H t p ∧ H e = some (.lst xs) ∧
  if xs.length = n then fE A H E 4 p.place else Q .non H
abbrev s_check_room : Stmt := top 49
theorem sc_check_room : FnScope ["token", "told", "most"] ["token", "told", "most"] (defScope s_check_room) := ⟨rfl, rfl, rfl, by decide +kernel, rfl, by decide +kernel, by decide +kernel⟩
theorem c_check_room (T : Txt K mg A) (D : Dn K mg "check_room" s_check_room ["token", "told", "most"]) : Ca P w K mg base (L2.CX P w) 2 "check_room" (spCheckRoom A) := by
  have sc := sc_check_room
  refine D.cx sc (fun vs H Q E h => ?_) (fun f cdv Ar outer s H vs Q E hr h => ?_)
  · obtain ⟨t, e, p, xs, n, rfl, _⟩ := h
    rfl
  · obtain ⟨t, e, p, xs, n, rfl, ⟨dt, sd, ht, hsd⟩, he, out⟩ := h
    refine ⟨_, (pss_one (ps_if (pt_cmpR op_eq (pe_callB call_len_seq (by rfl) T.len PySem.boot_len (pa_cons (pv 1) pa_nil)) (pv 2) (nomark _)) (pss_one (ps_raiseFlt rfl T.flt hr (takes_of rfl rfl rfl rfl) (pa_cons pe_int (pa_cons (pe_fld (pv 0) rfl) pa_nil)))) pss_nil)), ?_⟩
    refine ⟨_, rfl, e, _, rfl, .inl (SqL.of he), _, rfl, rfl, _, rfl, ?_⟩
    have ed : decide (V.int (xs.length : Int) = nV n) = decide (xs.length = n) := decide_eq_decide.mpr ⟨fun z => by injection z with z; omega, fun z => by rw [z]; rfl⟩
    rw [ed]
    by_cases hx : xs.length = n
    · rw [if_pos hx] at out
      rw [decide_eq_true hx]
      exact iteT ⟨_, rfl, t, _, dt, _, _, rfl, ht, T.cT, T.nTp, lt_place, _, _, rfl, fun dd nd => out.at nd⟩
    · rw [if_neg hx] at out
      rw [decide_eq_false hx]
      exact iteF out
end
end Ub
/-! Plain mathematics of reading. -/
namespace Ub
open VaskyBase
open Vaskya (Measure Item Sheet takeMeasures takeInt takeValues takeItems)
abbrev Ex (α : Type) := Except Fault α
theorem ok_bind {α β : Type} {x : α} {f : α → Ex β} : (Except.ok x : Ex α).bind f = f x := rfl
theorem err_bind {α β : Type} {e : Fault} {f : α → Ex β} : (Except.error e : Ex α).bind f = .error e := rfl
/-! ### one measure, what follows -/
def dirOf (l : Toks) : Ex (Bool × Toks) := if nextWord "up" l = true then .ok (true, l.drop 1) else (takeWord "down" l).map fun r => (false, r)
def readM (ms : List Measure) (l : Toks) : Ex (Measure × Toks) :=
  (takeName l).bind fun x => if 4 ≤ ms.length then .error ⟨4, x.1.place⟩ else if ms.any (fun m => m.name == x.1.name) = true then .error ⟨5, x.1.place⟩ else (dirOf x.2).bind fun u => .ok (⟨x.1.name, u.1⟩, u.2)
def afterM (n : Nat) (ns : List Measure) (l : Toks) : Ex (List Measure × Toks) := if next (.sign 44) l = true then takeMeasures n ns (l.drop 1) else (takeSign 59 l).map fun m => (ns, m)
theorem takeMs_succ (n : Nat) (ms : List Measure) (l : Toks) : takeMeasures (n + 1) ms l = (readM ms l).bind fun y => afterM n (ms ++ [y.1]) y.2 := by
  show ((takeName l).bind fun x => if 4 ≤ ms.length then _ else if ms.any (fun m => m.name == x.1.name) = true then _ else (dirOf x.2).bind fun u => afterM n (ms ++ [⟨x.1.name, u.1⟩]) u.2) = _
  unfold readM
  cases takeName l with
  | error e => rfl
  | ok x =>
    rw [ok_bind, ok_bind]
    split
    · rfl
    · split
      · rfl
      · cases dirOf x.2 <;> rfl
/-! ### the head of the tokens -/
theorem name_head {t : PTok} {r : Toks} {b : Bytes} (h : t.tok = .name b) (hr : RESERVED.contains b = false) : takeName (t :: r) = .ok (⟨t.place, b⟩, r) := by
  obtain ⟨p, k⟩ := t
  subst h
  show (if RESERVED.contains b = true then _ else _) = _
  rw [if_neg (by rw [hr]; exact Bool.false_ne_true)]
theorem name_not {t : PTok} {r : Toks} (h : ¬ ∃ b, t.tok = .name b ∧ RESERVED.contains b = false) : takeName (t :: r) = .error ⟨3, t.place⟩ := by
  obtain ⟨p, k⟩ := t
  cases k with
  | name b =>
    show (if RESERVED.contains b = true then _ else _) = _
    cases hb : RESERVED.contains b with
    | true => rw [if_pos rfl]; rfl
    | false => exact absurd ⟨b, rfl, hb⟩ h
  | num n => rfl
  | sign c => rfl
  | last => rfl
theorem taken_yes {t : PTok} {r : Toks} {k : Tok} (h : tokEq t.tok k = true) : taken k (t :: r) = .ok r := by
  show (if tokEq t.tok k = true then _ else _) = _
  rw [if_pos h]
  rfl
theorem taken_no {t : PTok} {r : Toks} {k : Tok} (h : tokEq t.tok k = false) : taken k (t :: r) = .error ⟨3, t.place⟩ := by
  show (if tokEq t.tok k = true then _ else _) = _
  rw [if_neg (by rw [h]; exact Bool.false_ne_true)]
  rfl
theorem next_is {t : PTok} {r : Toks} {k : Tok} : next k (t :: r) = tokEq t.tok k := rfl
theorem eq_notlast {x k : Tok} (h : tokEq x k = true) (hk : k ≠ .last) : x ≠ .last := fun e => by
  rw [e] at h
  cases k with
  | last => exact hk rfl
  | name b => cases h
  | num n => cases h
  | sign c => cases h
theorem last_iff {x : Tok} : tokEq x .last = true ↔ x = .last := by
  cases x with
  | last => exact ⟨fun _ => rfl, fun _ => rfl⟩
  | name b => exact ⟨fun h => (by cases h), fun h => (by cases h)⟩
  | num n => exact ⟨fun h => (by cases h), fun h => (by cases h)⟩
  | sign c => exact ⟨fun h => (by cases h), fun h => (by cases h)⟩
/-! ### a value -/
theorem int_neg {t u : PTok} {r : Toks} {n : Nat} (h : tokEq t.tok (.sign 45) = true) (hu : u.tok = .num n) : takeInt (t :: u :: r) = if 1000 < n then .error ⟨7, u.place⟩ else .ok (-(n : Int), r) := by
  obtain ⟨p, k⟩ := u
  subst hu
  unfold takeInt
  rw [next_is, h]
  rfl
theorem int_neg_not {t : PTok} {u : PTok} {r : Toks} (h : tokEq t.tok (.sign 45) = true) (hu : ¬ ∃ n, u.tok = .num n) : takeInt (t :: u :: r) = .error ⟨3, u.place⟩ := by
  obtain ⟨p, k⟩ := u
  unfold takeInt
  rw [next_is, h]
  cases k with
  | num n => exact absurd ⟨n, rfl⟩ hu
  | name b => rfl
  | sign c => rfl
  | last => rfl
theorem int_pos {t : PTok} {r : Toks} {n : Nat} (h : t.tok = .num n) : takeInt (t :: r) = if 1000 < n then .error ⟨7, t.place⟩ else .ok ((n : Int), r) := by
  obtain ⟨p, k⟩ := t
  subst h
  rfl
theorem int_not {t : PTok} {r : Toks} (h1 : tokEq t.tok (.sign 45) = false) (h2 : ¬ ∃ n, t.tok = .num n) : takeInt (t :: r) = .error ⟨3, t.place⟩ := by
  obtain ⟨p, k⟩ := t
  unfold takeInt
  rw [next_is, h1]
  cases k with
  | num n => exact absurd ⟨n, rfl⟩ h2
  | name b => rfl
  | sign c => rfl
  | last => rfl
/-! ### a row -/
def readR (k : Nat) (l : Toks) : Ex (List Int × Toks) := (takeValues k [] l).bind fun v => (takeSign 59 v.2).map fun m => (v.1, m)
theorem vals_first (n : Nat) (l : Toks) : takeValues (n + 1) [] l = (takeInt l).bind fun x => takeValues n [x.1] x.2 := rfl
theorem vals_next (n : Nat) (v : Int) (vs : List Int) (l : Toks) : takeValues (n + 1) (v :: vs) l = (takeSign 44 l).bind fun r => (takeInt r).bind fun x => takeValues n (v :: vs ++ [x.1]) x.2 := rfl
theorem vals_done (vs : List Int) (l : Toks) : takeValues 0 vs l = .ok (vs, l) := rfl
/-! ### items -/
def itemStep (k n : Nat) (is : List Item) (p : Nat) (r : Toks) : Ex (List Item) :=
  if 16 ≤ is.length then .error ⟨4, p⟩ else (takeName r).bind fun x =>
    if is.any (fun i => i.name == x.1.name) = true then .error ⟨5, x.1.place⟩
    else (takeSign 58 x.2).bind fun r => (readR k r).bind fun v => takeItems k n (is ++ [⟨x.1.name, v.1⟩]) v.2
theorem items_item {k n : Nat} {is : List Item} {t : PTok} {r : Toks} (h : tokEq t.tok (.name (word "item")) = true) : takeItems k (n + 1) is (t :: r) = itemStep k n is t.place r := by
  have hl : tokEq t.tok .last = false := by
    cases q : tokEq t.tok .last with
    | false => rfl
    | true => exact absurd (last_iff.mp q) (eq_notlast h (by intro e; cases e))
  show (if tokEq t.tok .last = true then _ else (taken (.name (word "item")) (t :: r)).bind fun r => if 16 ≤ is.length then .error ⟨4, t.place⟩ else (takeName r).bind fun x =>
      if is.any (fun i => i.name == x.1.name) = true then .error ⟨5, x.1.place⟩
      else (takeSign 58 x.2).bind fun r => (takeValues k [] r).bind fun v => (takeSign 59 v.2).bind fun m => takeItems k n (is ++ [⟨x.1.name, v.1⟩]) m) = _
  rw [if_neg (by rw [hl]; exact Bool.false_ne_true), taken_yes h, ok_bind]
  unfold itemStep
  split
  · rfl
  · cases takeName r with
    | error e => rfl
    | ok x =>
      rw [ok_bind, ok_bind]
      split
      · rfl
      · cases takeSign 58 x.2 with
        | error e => rfl
        | ok r2 =>
          rw [ok_bind, ok_bind]
          unfold readR
          cases takeValues k [] r2 with
          | error e => rfl
          | ok v =>
            rw [ok_bind, ok_bind]
            cases takeSign 59 v.2 <;> rfl
theorem items_last {k n : Nat} {is : List Item} {t : PTok} {r : Toks} (h : t.tok = .last) : takeItems k (n + 1) is (t :: r) = .ok is := by
  show (if tokEq t.tok .last = true then _ else _) = _
  rw [if_pos (last_iff.mpr h)]
theorem items_not {k n : Nat} {is : List Item} {t : PTok} {r : Toks} (h1 : t.tok ≠ .last) (h2 : tokEq t.tok (.name (word "item")) = false) : takeItems k (n + 1) is (t :: r) = .error ⟨3, t.place⟩ := by
  have hl : tokEq t.tok .last = false := by
    cases q : tokEq t.tok .last with
    | false => rfl
    | true => exact absurd (last_iff.mp q) h1
  show (if tokEq t.tok .last = true then _ else (taken (.name (word "item")) (t :: r)).bind _) = _
  rw [if_neg (by rw [hl]; exact Bool.false_ne_true), taken_no h2]
  rfl
end Ub
namespace Ub
open PySem PySem.Spec PyProof.Rows L2
open VaskyBase (Bytes word RESERVED PTok Toks)
/-! ### heaps that grow by a place that is hidden -/
theorem off_grow {S : Addr → Prop} {H : Hp} {p : Addr} {o : HO} (hp : H p = none) : Same (off S H) (off (fun q => S q ∨ q = p) (upd H p o)) := fun b u e => by
  have n := off_no e
  rw [off_of n] at e
  have nb : b ≠ p := ne_of_none e hp
  rw [off_of (fun z => z.elim n nb), upd_ne nb]
  exact e
theorem off_write {S : Addr → Prop} {H : Hp} {p : Addr} {o : HO} (hp : S p) : off S (upd H p o) = off S H := by
  funext x
  by_cases hx : S x
  · unfold off
    rw [if_pos hx, if_pos hx]
  · rw [off_of hx, off_of hx, upd_ne fun z => hx (by rw [z]; exact hp)]
theorem Dom.grow {S : Addr → Prop} {H : Hp} {p : Addr} {o : HO} (d : Dom S H) : Dom (fun q => S q ∨ q = p) (upd H p o) := fun a h e => by
  by_cases ha : a = p
  · rw [ha, upd_same] at e
    cases e
  · rw [upd_ne ha] at e
    exact d a (h.resolve_right ha) e
theorem Dom.write {S : Addr → Prop} {H : Hp} {p : Addr} {o : HO} (d : Dom S H) : Dom S (upd H p o) := fun a h e => by
  by_cases ha : a = p
  · rw [ha, upd_same] at e
    cases e
  · rw [upd_ne ha] at e
    exact d a h e
theorem RdAt.grow {A : Ad} {S : Addr → Prop} {H : Hp} {r p : Addr} {o : HO} {l : Toks} (hp : H p = none) (h : RdAt A S H r l) : RdAt A (fun q => S q ∨ q = p) (upd H p o) r l := by
  obtain ⟨hr, dx, Tl, i, L, h1, h2, h3⟩ := h
  exact ⟨.inl hr, dx, Tl, i, L, by rw [upd_ne (ne_of_none h1 hp)]; exact h1, h2.mono (off_grow hp), h3⟩
theorem RdAt.write {A : Ad} {S : Addr → Prop} {H : Hp} {r p : Addr} {o : HO} {l : Toks} (hp : S p) (hne : r ≠ p) (h : RdAt A S H r l) : RdAt A S (upd H p o) r l := by
  obtain ⟨hr, dx, Tl, i, L, h1, h2, h3⟩ := h
  exact ⟨hr, dx, Tl, i, L, by rw [upd_ne hne]; exact h1, by rw [off_write hp]; exact h2, h3⟩
/-- hiding less -/
theorem RdAt.less {A : Ad} {S S' : Addr → Prop} {H : Hp} {r : Addr} {l : Toks} (m : ∀ q, S q → S' q) (hr : S r) (h : RdAt A S' H r l) : RdAt A S H r l := by
  obtain ⟨_, dx, Tl, i, L, h1, h2, h3⟩ := h
  exact ⟨hr, dx, Tl, i, L, h1, h2.mono (off_mono m), h3⟩
theorem sameR_put {r p : Addr} {H H' : Hp} {o : HO} (s : SameR r H H') (n : H p = none) : SameR r H (upd H' p o) := fun b u nb e => by
  rw [upd_ne (ne_of_none e n)]
  exact s b u nb e
theorem SameR.free {r p : Addr} {H H' : Hp} (s : SameR r H H') (hr : H r ≠ none) (hr' : H' r ≠ none) (n : H' p = none) : H p = none := by
  cases q : H p with
  | none => rfl
  | some o =>
    by_cases hp : p = r
    · rw [hp] at n
      exact absurd n hr'
    · rw [s _ _ hp q] at n
      cases n
/-- the outcome of a def that reads on -/
def outR {α : Type} (A : Ad) (r : Addr) (H : Hp) (E : XK) (ok : α → Prop) : Except VaskyBase.Fault α → Prop
  | .error f => fR A r H E f.code f.place
  | .ok x => ok x
section
variable {P : Program} {w : World} {K : PySem.W.Frag} {mg : Str → Option Value} {base : Heap} {A : Ad}
/-! ### a call of take -/
def kArgs : List Str → TA
  | [] => tNil
  | s :: r => tCons (tC (.str s)) (kArgs r)
theorem kArgs_go {σ : L2.St} {H : Hp} : ∀ (ks : List Str) {R : List V → Hp → Prop}, R (ks.map V.str) H → kArgs ks σ H R
  | [], _, h => h
  | s :: r, R, h => kArgs_go (σ := σ) r (R := fun xs H2 => R (.str s :: xs) H2) h
theorem take_go {S : Addr → Prop} {H : Hp} {r : Addr} {t : PTok} {l : Toks} {Q : VK} {E : XK} {σ : L2.St} (ks : List Str) (h0 : σ[0]? = some (some (.ref r))) (h : RdAt A S H r (t :: l))
    (no : ks.contains (kindS t.tok) = false → fR A r H E 3 t.place) (yes : ks.contains (kindS t.tok) = true → ∀ H' a, SameR r H H' → RdAt A S H' r l → TokAt A (off S H') a t → Q (.ref a) H')
    (hl : ks.length ≤ 5 := by decide) : tMeth A.rdr "take" (spTake K A) [] E (tVar 0) (tCons (tTup (kArgs ks)) tNil) σ H Q := by
  obtain ⟨hr, dx, Tl, i, L, h1, h2, h3⟩ := id h
  refine ⟨_, h0, r, dx, _, rfl, h1, lr_take, ?_⟩
  refine kArgs_go ks ⟨?_, fun k nk => ?_⟩
  · rw [List.length_map, sizeLine_eq]
    omega
  · have sk : Same H (upd H k (.tup (ks.map V.str))) := same_new nk
    refine ⟨r, k, ks, t, l, S, rfl, SqT.of upd_same, h.same sk, ?_⟩
    cases hc : ks.contains (kindS t.tok) with
    | true =>
      rw [if_pos rfl]
      exact fun H' a s hR hT => yes hc H' a ((Same.b sk).trans s) hR hT
    | false =>
      rw [if_neg Bool.false_ne_true]
      exact (no hc).mono (Same.b sk)
theorem con1 {k s : Str} : [s].contains k = true ↔ k = s := by simp
theorem con2 {k s t : Str} : [s, t].contains k = true ↔ k = s ∨ k = t := by simp
theorem con1f {k s : Str} (h : [s].contains k = false) : ¬ k = s := fun e => by rw [con1.mpr e] at h; cases h
theorem con2f {k s t : Str} (h : [s, t].contains k = false) : ¬ k = s ∧ ¬ k = t := ⟨fun e => (by rw [con2.mpr (.inl e)] at h; cases h), fun e => (by rw [con2.mpr (.inr e)] at h; cases h)⟩
theorem bool_not {b : Bool} (h : ¬ b = true) : b = false := by simpa using h
/-! ### read_measure -/
def MsIn (A : Ad) (S : Addr → Prop) (H : Hp) (e : Addr) (ms : List Vaskya.Measure) : Prop := ∃ as : List Addr, H e = some (.lst (as.map V.ref)) ∧ All2 (MeasAt A (off S H)) as ms
theorem named_ms (T : Txt K mg A) {S : Addr → Prop} {H : Hp} {as : List Addr} {ms : List Vaskya.Measure} (h : All2 (MeasAt A (off S H)) as ms) : All2 (NamedAt K H) as (ms.map (·.name)) := by
  refine ⟨by rw [h.1, List.length_map], fun i a nm ha hn => ?_⟩
  obtain ⟨m, hm, rfl⟩ := map_get hn
  obtain ⟨dx, n, h1, h2⟩ := h.2 i a m ha hm
  exact ⟨A.mea, dx, n, _, T.cM, T.nMn, off_same _ _ h1, lu_name, off_same _ _ h2⟩
def spReadM (K : PySem.W.Frag) (A : Ad) : Sp := fun vs H Q E => ∃ (r e : Addr) (S : Addr → Prop) (l : Toks) (ms : List Vaskya.Measure), vs = [.ref r, .ref e] ∧ Dom S H ∧ RdAt A S H r l ∧ EndsL l ∧ MsIn A S H e ms ∧ e ≠ r ∧ ms.length ≤ 4 ∧
  outR A r H E (fun y => ∀ H' a, SameR r H H' → RdAt A S H' r y.2 → EndsL y.2 → MeasAt A (off S H') a y.1 → Q (.ref a) H') (readM ms l)
abbrev s_read_measure : Stmt := top 50
theorem sc_read_measure : FnScope ["reader", "earlier", "token", "direction"] ["reader", "earlier"] (defScope s_read_measure) := ⟨rfl, rfl, rfl, by decide +kernel, rfl, by decide +kernel, by decide +kernel⟩
theorem c_read_measure (T : Txt K mg A) (c_take : Me P w K mg base (L2.CX P w) 2 A.rdr "take" (spTake K A)) (c_check_room : Ca P w K mg base (L2.CX P w) 2 "check_room" (spCheckRoom A)) (c_check_new : Ca P w K mg base (L2.CX P w) 2 "check_new" (spCheckNew K A))
    (MMeasure : Ma P w K mg base 1 "Measure" A.mea (spInit2 A.mea "name" "up")) (D : Dn K mg "read_measure" s_read_measure ["reader", "earlier"]) : Ca P w K mg base (L2.CX P w) 4 "read_measure" (spReadM K A) := by
  have sc := sc_read_measure
  refine D.cx sc (fun vs H Q E h => ?_) (fun f cdv Ar outer s H vs Q E hr h => ?_)
  · obtain ⟨r, e, S, l, ms, rfl, _⟩ := h
    rfl
  · obtain ⟨r, e, S, l, ms, rfl, d, hR, hE, ⟨as, he, hA⟩, her, h4, out⟩ := h
    have hx : Passes (L2.CX P w) (cxOf (L2.CX P w) P w K mg base ["reader", "earlier", "token", "direction"] "read_measure" (defScope s_read_measure) f cdv Ar outer s H E) E := passes_call (takes_of rfl rfl rfl rfl) (fun _ _ _ _ h => h)
    refine ⟨_, (pss_cons (ps_set (i := 2) sc.nd rfl (Or.inl rfl) (pe_mx c_take T.cR hr hx (pv 0) (pa_cons (pe_tup (pa_cons pe_str pa_nil)) pa_nil)))
      (pss_cons (ps_expr (pe_cx c_check_room hr hx (pa_cons (pv 2) (pa_cons (pv 1) (pa_cons (pe_gi rfl T.gMOST_MEASURES) pa_nil)))))
      (pss_cons (ps_expr (pe_cx c_check_new hr hx (pa_cons (pv 2) (pa_cons (pv 1) pa_nil))))
      (pss_cons (ps_set (i := 3) sc.nd rfl (Or.inl rfl) (pe_mx c_take T.cR hr hx (pv 0) (pa_cons (pe_tup (pa_cons pe_str (pa_cons pe_str pa_nil))) pa_nil)))
      (pss_one (ps_ret (pe_ma MMeasure hr (pa_cons (pe_fld (pv 2) rfl) (pa_cons (pe_cmpR op_eq (pe_fld (pv 3) rfl) pe_str (nomark _)) pa_nil))))))))), ?_⟩
    obtain ⟨t, l1, rfl⟩ := hE.cons
    unfold readM at out
    -- token = reader.take(("name",))
    refine take_go ["name"] rfl hR (fun hc => ?_) (fun hc H1 a s1 hR1 hT1 => ?_)
    · rw [name_not (fun z => con1f hc (kd_name.mpr z))] at out
      exact out
    obtain ⟨b, htk, hres⟩ := kd_name.mp (con1.mp hc)
    rw [name_head htk hres, ok_bind] at out
    have hE1 : EndsL l1 := hE.next (by rw [htk]; intro z; cases z)
    have he1 : H1 e = some (.lst (as.map V.ref)) := s1 _ _ her he
    have hA1 : All2 (MeasAt A (off S H1)) as ms := hA.mono fun _ _ z => z.mono (s1.off hR.1)
    have hT1' := TokAt.mono off_same hT1
    -- check_room(token, earlier, MOST_MEASURES)
    refine ⟨_, rfl, _, rfl, a, e, t, _, 4, rfl, hT1', he1, ?_⟩
    rw [List.length_map, hA.1]
    by_cases h44 : ms.length = 4
    · rw [if_pos h44]
      rw [if_pos (by omega)] at out
      exact (fR.mono s1 out).e
    rw [if_neg h44]
    rw [if_neg (by omega)] at out
    -- check_new(token, earlier)
    refine ⟨_, rfl, _, rfl, a, e, t, b, as, _, rfl, hT1', htk, hres, he1, named_ms T hA1, ?_⟩
    rw [List.any_map]
    by_cases hnew : (ms.any fun m => m.name == b) = true
    · rw [if_pos hnew] at out
      rw [if_pos (show (ms.any ((fun n => n == b) ∘ fun x => x.name)) = true from hnew)]
      exact (fR.mono s1 out).e
    rw [if_neg hnew] at out
    rw [if_neg (show ¬ (ms.any ((fun n => n == b) ∘ fun x => x.name)) = true from hnew)]
    -- direction = reader.take(("up", "down"))
    obtain ⟨u, l2, rfl⟩ := hE1.cons
    refine take_go ["up", "down"] rfl hR1 (fun hc2 => ?_) (fun hc2 H2 c s2 hR2 hT2 => ?_)
    · obtain ⟨n1, n2⟩ := con2f hc2
      have e1 : VaskyBase.nextWord "up" (u :: l2) = false := bool_not fun z => n1 ((kd_word (.inr (.inl rfl))).mpr z)
      have e2 : VaskyBase.tokEq u.tok (.name (word "down")) = false := bool_not fun z => n2 ((kd_word (.inr (.inr (.inl rfl)))).mpr z)
      have e3 : dirOf (u :: l2) = .error ⟨3, u.place⟩ := by
        unfold dirOf
        rw [if_neg (by rw [e1]; exact Bool.false_ne_true)]
        unfold VaskyBase.takeWord
        rw [taken_no e2]
        rfl
      rw [e3] at out
      exact fR.mono s1 out
    obtain ⟨dt, sd, ht2, hsd2⟩ := id (TokAt.mono off_same hT2)
    have hdir : dirOf (u :: l2) = .ok (decide (kindS u.tok = "up"), l2) ∧ u.tok ≠ .last := by
      rcases con2.mp hc2 with h | h
      · have e1 := (kd_word (s := "up") (.inr (.inl rfl))).mp h
        refine ⟨?_, eq_notlast e1 (by intro z; cases z)⟩
        unfold dirOf
        rw [if_pos (show VaskyBase.nextWord "up" (u :: l2) = true from e1), decide_eq_true h]
        rfl
      · have e2 := (kd_word (s := "down") (.inr (.inr (.inl rfl)))).mp h
        have n1 : ¬ kindS u.tok = "up" := fun z => by rw [h] at z; exact absurd z (by decide +kernel)
        refine ⟨?_, eq_notlast e2 (by intro z; cases z)⟩
        unfold dirOf
        rw [if_neg (show ¬ VaskyBase.nextWord "up" (u :: l2) = true from fun z => n1 ((kd_word (s := "up") (.inr (.inl rfl))).mpr z)), decide_eq_false n1]
        unfold VaskyBase.takeWord
        rw [taken_yes e2]
        rfl
    rw [hdir.1, ok_bind] at out
    have hE2 : EndsL l2 := hE1.next hdir.2
    -- return Measure(token.said, direction.kind == "up")
    have hT12 := hT1.mono (s2.off hR.1)
    obtain ⟨dt1, sd1, ht1, hsd1⟩ := hT12
    rw [htk] at hsd1
    obtain ⟨q, rfl, hq⟩ := hsd1.resolve_left (by rw [hres]; exact Bool.false_ne_true)
    refine ⟨_, rfl, a, _, dt1, _, _, rfl, off_same _ _ ht1, T.cT, T.nTs, lt_said, _, rfl, c, _, dt, _, _, rfl, ht2, T.cT, T.nTk, lt_kind, rfl, fun x dx nx nd ne => ?_⟩
    refine ⟨x, dx, _, _, rfl, upd_same, rfl, ?_⟩
    have ed : decide (V.str (kindS u.tok) = V.str "up") = decide (kindS u.tok = "up") := decide_eq_decide.mpr ⟨fun z => by injection z, fun z => by rw [z]⟩
    rw [ed]
    have sI : Same H2 (newI H2 x dx A.mea [("name", .ref q), ("up", .bl (decide (kindS u.tok = "up")))]) := newI_same nx nd
    have s12 : SameR r H H2 := s1.trans s2
    refine out _ x (s12.trans (Same.b sI)) (hR2.same sI) hE2 ⟨dx, q, ?_, Same.off sI _ _ hq⟩
    have dS : Dom S H2 := s12.dom d hR2.there
    rw [off_new dS nx]
    exact newI_at
end
end Ub
namespace Ub
open PySem PySem.Spec PyProof.Rows L2
open VaskyBase (Bytes word RESERVED PTok Toks)
open Vaskya (takeMeasures takeInt takeValues takeItems)
theorem readM_len {ms : List Vaskya.Measure} {l : Toks} {y : Vaskya.Measure × Toks} (h : readM ms l = .ok y) : y.2.length ≤ l.length := by
  unfold readM at h
  cases hn : VaskyBase.takeName l with
  | error e => rw [hn] at h; cases h
  | ok x =>
    have h1 : x.2.length ≤ l.length := by
      cases l with
      | nil => cases hn
      | cons t r =>
        obtain ⟨p, k⟩ := t
        cases k with
        | name b =>
          have hn' : (if RESERVED.contains b = true then (VaskyBase.wrong _ : Ex (VaskyBase.PName × Toks)) else .ok (⟨p, b⟩, r)) = .ok x := hn
          split at hn'
          · cases hn'
          · cases hn'
            rw [List.length_cons]
            exact Nat.le_succ _
        | num n => cases hn
        | sign c => cases hn
        | last => cases hn
    rw [hn, ok_bind] at h
    split at h
    · cases h
    · split at h
      · cases h
      · cases hd : dirOf x.2 with
        | error e => rw [hd] at h; cases h
        | ok u =>
          rw [hd, ok_bind] at h
          cases h
          have h2 : u.2.length ≤ x.2.length := by
            unfold dirOf at hd
            split at hd
            · cases hd
              rw [List.length_drop]
              omega
            · unfold VaskyBase.takeWord VaskyBase.taken at hd
              split at hd
              · cases hd
                rw [List.length_drop]
                omega
              · cases hd
          exact Nat.le_trans h2 h1
theorem readM_bound {ms : List Vaskya.Measure} {l : Toks} {y : Vaskya.Measure × Toks} (h : readM ms l = .ok y) : ms.length < 4 := by
  unfold readM at h
  cases hn : VaskyBase.takeName l with
  | error e => rw [hn] at h; cases h
  | ok x =>
    rw [hn, ok_bind] at h
    split at h
    · cases h
    · omega
section
variable {P : Program} {w : World} {K : PySem.W.Frag} {mg : Str → Option Value} {base : Heap} {A : Ad}
/-! ### read_measures -/
def readMs (l : Toks) : Ex (List Vaskya.Measure × Toks) := (VaskyBase.takeWord "measures" l).bind fun r => takeMeasures (r.length + 1) [] r
def spReadMs (K : PySem.W.Frag) (A : Ad) : Sp := fun vs H Q E => ∃ (r : Addr) (S : Addr → Prop) (l : Toks), vs = [.ref r] ∧ Dom S H ∧ RdAt A S H r l ∧ EndsL l ∧
  outR A r H E (fun y => ∀ H' m, SameR r H H' → H m = none → RdAt A S H' r y.2 → EndsL y.2 → MsAt A (off S H') m y.1 → Q (.ref m) H') (readMs l)
abbrev s_read_measures : Stmt := top 51
theorem sc_read_measures : FnScope ["reader", "measures"] ["reader"] (defScope s_read_measures) := ⟨rfl, rfl, rfl, by decide +kernel, rfl, by decide +kernel, by decide +kernel⟩
theorem c_read_measures (T : Txt K mg A) (c_take : Me P w K mg base (L2.CX P w) 2 A.rdr "take" (spTake K A)) (c_read_measure : Ca P w K mg base (L2.CX P w) 4 "read_measure" (spReadM K A))
    (D : Dn K mg "read_measures" s_read_measures ["reader"]) : Ca P w K mg base (L2.CX P w) 5 "read_measures" (spReadMs K A) := by
  have sc := sc_read_measures
  refine D.cx sc (fun vs H Q E h => ?_) (fun f cdv Ar outer s H vs Q E hr h => ?_)
  · obtain ⟨r, S, l, rfl, _⟩ := h
    rfl
  · obtain ⟨r, S, l, rfl, d, hR, hE, out⟩ := h
    have hx : Passes (L2.CX P w) (cxOf (L2.CX P w) P w K mg base ["reader", "measures"] "read_measures" (defScope s_read_measures) f cdv Ar outer s H E) E := passes_call (takes_of rfl rfl rfl rfl) (fun _ _ _ _ h => h)
    refine ⟨_, (pss_cons (ps_expr (pe_mx c_take T.cR hr hx (pv 0) (pa_cons (pe_tup (pa_cons pe_str pa_nil)) pa_nil)))
      (pss_cons (ps_set (i := 1) sc.nd rfl (Or.inl rfl) (pe_lst (pa_cons (pe_cx c_read_measure hr hx (pa_cons (pv 0) (pa_cons (pe_lst pa_nil) pa_nil))) pa_nil)))
      (pss_cons (ps_while (passes_of rfl) (pt_cmpR op_eq (pe_fld (pe_mx c_take T.cR hr hx (pv 0) (pa_cons (pe_tup (pa_cons pe_str (pa_cons pe_str pa_nil))) pa_nil)) rfl) pe_str (nomark _)) (pss_one (ps_expr (pe_bm PySem.F.plainAttrs_list PySem.F.slot_list_append PySem.F.type_list_append mt_append (pv 1) (pa_cons (pe_cx c_read_measure hr hx (pa_cons (pv 0) (pa_cons (pv 1) pa_nil))) pa_nil)))))
      (pss_one (ps_ret (pv 1)))))), ?_⟩
    obtain ⟨t, l1, rfl⟩ := hE.cons
    unfold readMs VaskyBase.takeWord at out
    -- reader.take(("measures",))
    refine take_go ["measures"] rfl hR (fun hc => ?_) (fun hc H1 a s1 hR1 hT1 => ?_)
    · have e : VaskyBase.tokEq t.tok (.name (word "measures")) = false := bool_not fun z => con1f hc ((kd_word (.inl rfl)).mpr z)
      rw [taken_no e] at out
      exact out
    have e0 := (kd_word (s := "measures") (.inl rfl)).mp (con1.mp hc)
    rw [taken_yes e0, ok_bind, takeMs_succ] at out
    have hE1 : EndsL l1 := hE.next (eq_notlast e0 (by intro z; cases z))
    have d1 : Dom S H1 := s1.dom d hR1.there
    -- measures = [read_measure(reader, [])]
    refine ⟨_, rfl, Nat.zero_le _, fun e ne => ?_⟩
    have se : Same H1 (upd H1 e (.lst [])) := same_new ne
    have her : e ≠ r := fun z => hR1.there (by rw [← z]; exact ne)
    refine ⟨r, e, S, l1, [], rfl, d1.mono se, hR1.same se, hE1, ⟨[], upd_same, All2.nil⟩, her, by decide, ?_⟩
    cases hm0 : readM [] l1 with
    | error fl =>
      rw [hm0] at out
      exact fR.mono (s1.trans (Same.b se)) out
    | ok y0 =>
      rw [hm0, ok_bind] at out
      intro H2 a0 s2 hR2 hE2 hM2
      have s02 : SameR r H H2 := (s1.trans (Same.b se)).trans s2
      have d2 : Dom S H2 := s02.dom d hR2.there
      refine ⟨(by show 1 ≤ sizeLine; decide), fun m nm => ?_⟩
      have hmr : r ≠ m := fun z => hR2.there (by rw [z]; exact nm)
      have nm0 : H m = none := s02.free hR.there hR2.there nm
      -- the loop
      refine ⟨fun mm σ H' => ∃ (ms : List Vaskya.Measure) (as : List Addr) (lr : Toks) (n : Nat), σ = [some (.ref r), some (.ref m)] ∧ SameR r H H' ∧ RdAt A (fun q => S q ∨ q = m) H' r lr ∧ EndsL lr ∧ Dom (fun q => S q ∨ q = m) H' ∧ H' m = some (.lst (as.map V.ref)) ∧
        All2 (MeasAt A (off (fun q => S q ∨ q = m) H')) as ms ∧ ms.length ≤ 4 ∧ (afterM l1.length [y0.1] y0.2 = afterM n ms lr) ∧ lr.length ≤ n ∧ mm = lr.length, ⟨_, [y0.1], [a0], y0.2, l1.length, rfl, sameR_put s02 nm0, hR2.grow nm, hE2, d2.grow, upd_same, ?_, (by show 1 ≤ 4; decide), rfl, readM_len hm0, rfl⟩, ?_⟩
      · refine ⟨rfl, fun i x z hx hz => ?_⟩
        have := All2.snoc (All2.nil (R := MeasAt A (off (fun q => S q ∨ q = m) (upd H2 m (.lst [.ref a0]))))) (hM2.mono (off_grow nm))
        exact this.2 i x z hx hz
      · rintro mm σ H' ⟨ms, as, lr, n, rfl, s3, hR3, hE3, d3, hm3, hA3, h4, hout, hn, rfl⟩
        obtain ⟨u, l3, rfl⟩ := hE3.cons
        rw [show ([] ++ [y0.1] : List Vaskya.Measure) = [y0.1] from rfl, hout] at out
        unfold afterM at out
        -- reader.take((",", ";")).kind == ","
        refine take_go [",", ";"] rfl hR3 (fun hc => ?_) (fun hc H4 c s4 hR4 hT4 => ?_)
        · obtain ⟨n1, n2⟩ := con2f hc
          have e1 : VaskyBase.tokEq u.tok (.sign 44) = false := bool_not fun z => n1 (kd_sign.mpr z)
          have e2 : VaskyBase.tokEq u.tok (.sign 59) = false := bool_not fun z => n2 (kd_sign.mpr z)
          rw [next_is, if_neg (by rw [e1]; exact Bool.false_ne_true)] at out
          unfold VaskyBase.takeSign at out
          rw [taken_no e2] at out
          exact fR.mono s3 out
        obtain ⟨dt, sd, ht4, hsd4⟩ := TokAt.mono off_same hT4
        refine ⟨c, _, dt, _, _, rfl, ht4, T.cT, T.nTk, lt_kind, rfl, _, rfl, ?_⟩
        have ed : decide (V.str (kindS u.tok) = V.str ",") = VaskyBase.tokEq u.tok (.sign 44) := by
          rw [Bool.eq_iff_iff, decide_eq_true_iff, ← kd_sign]
          exact ⟨fun z => by injection z, fun z => by rw [z]; rfl⟩
        rw [ed]
        have s04 : SameR r H H4 := s3.trans s4
        have d4 : Dom (fun q => S q ∨ q = m) H4 := s4.dom d3 hR4.there
        have hm4 : H4 m = some (.lst (as.map V.ref)) := s4 _ _ hmr.symm hm3
        have hA4 : All2 (MeasAt A (off (fun q => S q ∨ q = m) H4)) as ms := hA3.mono fun _ _ z => z.mono (s4.off hR3.1)
        cases hcm : VaskyBase.tokEq u.tok (.sign 44) with
        | true =>
          rw [next_is, if_pos hcm, List.drop_one, List.tail_cons] at out
          have hE4 : EndsL l3 := hE3.next (eq_notlast hcm (by intro z; cases z))
          rw [List.length_cons] at hn
          obtain ⟨n', rfl⟩ : ∃ n', n = n' + 1 := ⟨n - 1, by omega⟩
          rw [takeMs_succ] at out
          refine iteT ⟨fun σ' H' => ∃ mm, mm < (u :: l3).length ∧ ∃ (ms : List Vaskya.Measure) (as : List Addr) (lr : Toks) (n : Nat), σ' = [some (.ref r), some (.ref m)] ∧ SameR r H H' ∧ RdAt A (fun q => S q ∨ q = m) H' r lr ∧ EndsL lr ∧ Dom (fun q => S q ∨ q = m) H' ∧ H' m = some (.lst (as.map V.ref)) ∧
            All2 (MeasAt A (off (fun q => S q ∨ q = m) H')) as ms ∧ ms.length ≤ 4 ∧ (afterM l1.length [y0.1] y0.2 = afterM n ms lr) ∧ lr.length ≤ n ∧ mm = lr.length, fun _ _ z => z, ?_⟩
          refine ⟨_, rfl, .inl ⟨rfl, _, SqL.of hm4⟩, _, rfl, _, rfl, ?_⟩
          refine ⟨r, m, (fun q => S q ∨ q = m), l3, ms, rfl, d4, hR4, hE4, ⟨as, hm4, hA4⟩, hmr.symm, h4, ?_⟩
          cases hmk : readM ms l3 with
          | error fl =>
            rw [hmk] at out
            exact fR.mono s04 out
          | ok y =>
            intro H5 b s5 hR5 hE5 hM5
            have hm5 : H5 m = some (.lst (as.map V.ref)) := s5 _ _ hmr.symm hm4
            refine ⟨m, _, _, rfl, rfl, hm5, ?_, ?_⟩
            · rw [List.length_map, hA4.1]
              exact small1000 (by omega)
            · have hb := readM_bound hmk
              have hlen := readM_len hmk
              have d5 : Dom (fun q => S q ∨ q = m) H5 := s5.dom d4 hR5.there
              have hA5 : All2 (MeasAt A (off (fun q => S q ∨ q = m) H5)) as ms := hA4.mono fun _ _ z => z.mono (s5.off hR4.1)
              refine ⟨y.2.length, ?_, ms ++ [y.1], as ++ [b], y.2, n', rfl, sameR_put (s04.trans s5) nm0, hR5.write (.inr rfl) hmr, hE5, d5.write, ?_, ?_, ?_, ?_, ?_, rfl⟩
              · rw [List.length_cons]
                omega
              · rw [upd_same, List.map_append]
                rfl
              · rw [off_write (S := fun q => S q ∨ q = m) (p := m) (.inr rfl)]
                exact All2.snoc hA5 hM5
              · rw [List.length_append, List.length_singleton]
                omega
              · rw [hout]
                unfold afterM
                rw [next_is, if_pos hcm, List.drop_one, List.tail_cons, takeMs_succ, hmk]
                rfl
              · omega
        | false =>
          rw [next_is, if_neg (by rw [hcm]; exact Bool.false_ne_true)] at out
          have e59 : VaskyBase.tokEq u.tok (.sign 59) = true := by
            rcases con2.mp hc with h | h
            · rw [(kd_sign (c := 44)).mp h] at hcm
              cases hcm
            · exact kd_sign.mp h
          unfold VaskyBase.takeSign at out
          rw [taken_yes e59] at out
          have hE4 : EndsL l3 := hE3.next (eq_notlast e59 (by intro z; cases z))
          refine iteF ⟨_, rfl, ?_⟩
          refine out H4 m s04 nm0 (hR4.less (fun q z => .inl z) hR.1) hE4 ⟨as, ?_, hA4.mono fun _ _ z => z.mono (off_mono fun q z => .inl z)⟩
          rw [off_new d nm0]
          exact hm4
end
end Ub
namespace Ub
open PySem PySem.Spec PyProof.Rows L2
open VaskyBase (Bytes word RESERVED PTok Toks)
open Vaskya (takeMeasures takeInt takeValues takeItems)
section
variable {P : Program} {w : World} {K : PySem.W.Frag} {mg : Str → Option Value} {base : Heap} {A : Ad}
/-! ### read_value -/
def spReadV (K : PySem.W.Frag) (A : Ad) : Sp := fun vs H Q E => ∃ (r : Addr) (S : Addr → Prop) (l : Toks), vs = [.ref r] ∧ RdAt A S H r l ∧ EndsL l ∧
  outR A r H E (fun y => ∀ H', SameR r H H' → RdAt A S H' r y.2 → EndsL y.2 → Q (.int y.1) H') (takeInt l)
theorem big_val {n : Nat} : decide ((1000 : Int) < (n : Int)) = decide (1000 < n) := decide_eq_decide.mpr (by omega)
abbrev s_read_value : Stmt := top 52
theorem sc_read_value : FnScope ["reader", "token", "below_zero"] ["reader"] (defScope s_read_value) := ⟨rfl, rfl, rfl, by decide +kernel, rfl, by decide +kernel, by decide +kernel⟩
theorem c_read_value (T : Txt K mg A) (c_take : Me P w K mg base (L2.CX P w) 2 A.rdr "take" (spTake K A)) (D : Dn K mg "read_value" s_read_value ["reader"]) : Ca P w K mg base (L2.CX P w) 3 "read_value" (spReadV K A) := by
  have sc := sc_read_value
  refine D.cx sc (fun vs H Q E h => ?_) (fun f cdv Ar outer s H vs Q E hr h => ?_)
  · obtain ⟨r, S, l, rfl, _⟩ := h
    rfl
  · obtain ⟨r, S, l, rfl, hR, hE, out⟩ := h
    have hx : Passes (L2.CX P w) (cxOf (L2.CX P w) P w K mg base ["reader", "token", "below_zero"] "read_value" (defScope s_read_value) f cdv Ar outer s H E) E := passes_call (takes_of rfl rfl rfl rfl) (fun _ _ _ _ h => h)
    refine ⟨_, (pss_cons (ps_set (i := 1) sc.nd rfl (Or.inl rfl) (pe_mx c_take T.cR hr hx (pv 0) (pa_cons (pe_tup (pa_cons pe_str (pa_cons pe_str pa_nil))) pa_nil)))
      (pss_cons (ps_set (i := 2) sc.nd rfl (Or.inl rfl) (pe_cmpR op_eq (pe_fld (pv 1) rfl) pe_str (nomark _)))
      (pss_cons (ps_if (pt_val (pv 2)) (pss_one (ps_set (i := 1) sc.nd rfl (Or.inl rfl) (pe_mx c_take T.cR hr hx (pv 0) (pa_cons (pe_tup (pa_cons pe_str pa_nil)) pa_nil)))) pss_nil)
      (pss_cons (ps_if (pt_cmpR op_gt (pe_fld (pv 1) rfl) (pe_gi rfl T.gMOST_VALUE) (nomark _)) (pss_one (ps_raiseFlt rfl T.flt hr (takes_of rfl rfl rfl rfl) (pa_cons pe_int (pa_cons (pe_fld (pv 1) rfl) pa_nil)))) pss_nil)
      (pss_cons (ps_if (pt_val (pv 2)) (pss_one (ps_ret (pe_un un_neg (pe_fld (pv 1) rfl)))) pss_nil)
      (pss_one (ps_ret (pe_fld (pv 1) rfl)))))))), ?_⟩
    obtain ⟨t, l1, rfl⟩ := hE.cons
    -- token = reader.take(("-", "number"))
    refine take_go ["-", "number"] rfl hR (fun hc => ?_) (fun hc H1 a s1 hR1 hT1 => ?_)
    · obtain ⟨n1, n2⟩ := con2f hc
      rw [int_not (bool_not fun z => n1 (kd_sign.mpr z)) (fun z => n2 (kd_num.mpr z))] at out
      exact out
    obtain ⟨dt, sd, ht, hsd⟩ := id (TokAt.mono off_same hT1)
    refine ⟨_, rfl, a, _, dt, _, _, rfl, ht, T.cT, T.nTk, lt_kind, rfl, ?_⟩
    have ed : decide (V.str (kindS t.tok) = V.str "-") = VaskyBase.tokEq t.tok (.sign 45) := by
      rw [Bool.eq_iff_iff, decide_eq_true_iff, ← kd_sign]
      exact ⟨fun z => by injection z, fun z => by rw [z]; rfl⟩
    rw [ed]
    cases hm : VaskyBase.tokEq t.tok (.sign 45) with
    | true =>
      have hE1 : EndsL l1 := hE.next (eq_notlast hm (by intro z; cases z))
      obtain ⟨u, l2, rfl⟩ := hE1.cons
      refine ⟨_, rfl, _, rfl, iteT ?_⟩
      -- token = reader.take(("number",))
      refine take_go ["number"] rfl hR1 (fun hc2 => ?_) (fun hc2 H2 b s2 hR2 hT2 => ?_)
      · rw [int_neg_not hm (fun z => con1f hc2 (kd_num.mpr z))] at out
        exact fR.mono s1 out
      obtain ⟨n, hn⟩ := kd_num.mp (con1.mp hc2)
      rw [int_neg hm hn] at out
      have hE2 : EndsL l2 := hE1.next (by rw [hn]; intro z; cases z)
      obtain ⟨du, sdu, hu, hsu⟩ := id (TokAt.mono off_same hT2)
      rw [hn] at hsu
      have hsu' : sdu = nV n := hsu
      subst hsu'
      refine ⟨_, rfl, b, _, du, _, _, rfl, hu, T.cT, T.nTs, lt_said, _, 1000, rfl, rfl, _, rfl, ?_⟩
      rw [big_val]
      by_cases hbig : 1000 < n
      · rw [if_pos hbig] at out
        rw [decide_eq_true hbig]
        exact iteT ⟨_, rfl, b, _, du, _, _, rfl, hu, T.cT, T.nTp, lt_place, _, _, rfl, fun dd nd => (fR.mono (s1.trans s2) out).e.at nd⟩
      · rw [if_neg hbig] at out
        rw [decide_eq_false hbig]
        refine iteF ⟨_, rfl, _, rfl, iteT ⟨_, rfl, b, _, du, _, _, rfl, hu, T.cT, T.nTs, lt_said, _, rfl, ?_⟩⟩
        exact out H2 (s1.trans s2) hR2 hE2
    | false =>
      have hnum : ∃ n, t.tok = .num n := by
        rcases con2.mp hc with h | h
        · rw [(kd_sign (c := 45)).mp h] at hm
          cases hm
        · exact kd_num.mp h
      obtain ⟨n, hn⟩ := hnum
      rw [int_pos hn] at out
      have hE1 : EndsL l1 := hE.next (by rw [hn]; intro z; cases z)
      rw [hn] at hsd
      have hsd' : sd = nV n := hsd
      subst hsd'
      refine ⟨_, rfl, _, rfl, iteF ?_⟩
      refine ⟨_, rfl, a, _, dt, _, _, rfl, ht, T.cT, T.nTs, lt_said, _, 1000, rfl, rfl, _, rfl, ?_⟩
      rw [big_val]
      by_cases hbig : 1000 < n
      · rw [if_pos hbig] at out
        rw [decide_eq_true hbig]
        exact iteT ⟨_, rfl, a, _, dt, _, _, rfl, ht, T.cT, T.nTp, lt_place, _, _, rfl, fun dd nd => (fR.mono s1 out).e.at nd⟩
      · rw [if_neg hbig] at out
        rw [decide_eq_false hbig]
        refine iteF ⟨_, rfl, _, rfl, iteF ⟨_, rfl, a, _, dt, _, _, rfl, ht, T.cT, T.nTs, lt_said, ?_⟩⟩
        exact out H1 s1 hR1 hE1
/-! ### read_row -/
def spReadRow (K : PySem.W.Frag) (A : Ad) : Sp := fun vs H Q E => ∃ (r : Addr) (S : Addr → Prop) (l : Toks) (k : Nat), vs = [.ref r, nV k] ∧ Dom S H ∧ RdAt A S H r l ∧ EndsL l ∧ 1 ≤ k ∧ k ≤ 4 ∧
  outR A r H E (fun y => ∀ H' w, SameR r H H' → H w = none → RdAt A S H' r y.2 → EndsL y.2 → H' w = some (.lst (y.1.map V.int)) → Q (.ref w) H') (readR k l)
abbrev s_read_row : Stmt := top 53
theorem sc_read_row : FnScope ["reader", "size", "row"] ["reader", "size"] (defScope s_read_row) := ⟨rfl, rfl, rfl, by decide +kernel, rfl, by decide +kernel, by decide +kernel⟩
theorem c_read_row (T : Txt K mg A) (c_take : Me P w K mg base (L2.CX P w) 2 A.rdr "take" (spTake K A)) (c_read_value : Ca P w K mg base (L2.CX P w) 3 "read_value" (spReadV K A)) (D : Dn K mg "read_row" s_read_row ["reader", "size"]) : Ca P w K mg base (L2.CX P w) 4 "read_row" (spReadRow K A) := by
  have sc := sc_read_row
  refine D.cx sc (fun vs H Q E h => ?_) (fun f cdv Ar outer s H vs Q E hr h => ?_)
  · obtain ⟨r, S, l, k, rfl, _⟩ := h
    rfl
  · obtain ⟨r, S, l, k, rfl, d, hR, hE, hk1, hk4, out⟩ := h
    have hx : Passes (L2.CX P w) (cxOf (L2.CX P w) P w K mg base ["reader", "size", "row"] "read_row" (defScope s_read_row) f cdv Ar outer s H E) E := passes_call (takes_of rfl rfl rfl rfl) (fun _ _ _ _ h => h)
    refine ⟨_, (pss_cons (ps_set (i := 2) sc.nd rfl (Or.inl rfl) (pe_lst (pa_cons (pe_cx c_read_value hr hx (pa_cons (pv 0) pa_nil)) pa_nil)))
      (pss_cons (ps_while (passes_of rfl) (pt_cmpR op_lt (pe_callB call_len_seq (by rfl) T.len PySem.boot_len (pa_cons (pv 2) pa_nil)) (pv 1) (nomark _)) (pss_cons (ps_expr (pe_mx c_take T.cR hr hx (pv 0) (pa_cons (pe_tup (pa_cons pe_str pa_nil)) pa_nil)))
      (pss_one (ps_expr (pe_bm PySem.F.plainAttrs_list PySem.F.slot_list_append PySem.F.type_list_append mt_append (pv 2) (pa_cons (pe_cx c_read_value hr hx (pa_cons (pv 0) pa_nil)) pa_nil))))))
      (pss_cons (ps_expr (pe_mx c_take T.cR hr hx (pv 0) (pa_cons (pe_tup (pa_cons pe_str pa_nil)) pa_nil)))
      (pss_one (ps_ret (pv 2)))))), ?_⟩
    obtain ⟨k', rfl⟩ : ∃ k', k = k' + 1 := ⟨k - 1, by omega⟩
    unfold readR at out
    rw [vals_first] at out
    -- row = [read_value(reader)]
    refine ⟨_, rfl, r, S, l, rfl, hR, hE, ?_⟩
    cases hv0 : takeInt l with
    | error fl =>
      rw [hv0] at out
      exact out
    | ok y0 =>
      rw [hv0, ok_bind] at out
      intro H1 s1 hR1 hE1
      refine ⟨(by show 1 ≤ sizeLine; decide), fun m nm => ?_⟩
      have hmr : r ≠ m := fun z => hR1.there (by rw [z]; exact nm)
      have nm0 : H m = none := s1.free hR.there hR1.there nm
      have d1 : Dom S H1 := s1.dom d hR1.there
      -- the loop
      refine ⟨fun mm σ H' => ∃ (v : Int) (vs : List Int) (lr : Toks), σ = [some (.ref r), some (nV (k' + 1)), some (.ref m)] ∧ SameR r H H' ∧ RdAt A (fun q => S q ∨ q = m) H' r lr ∧ EndsL lr ∧ H' m = some (.lst ((v :: vs).map V.int)) ∧ vs.length ≤ k' ∧
        (takeValues k' [y0.1] y0.2 = takeValues (k' - vs.length) (v :: vs) lr) ∧ mm = k' - vs.length, ⟨_, y0.1, [], y0.2, rfl, sameR_put s1 nm0, hR1.grow nm, hE1, upd_same, Nat.zero_le _, rfl, rfl⟩, ?_⟩
      rintro mm σ H' ⟨v, vs, lr, rfl, s2, hR2, hE2, hm2, hvl, hout, rfl⟩
      obtain ⟨u, l3, rfl⟩ := hE2.cons
      rw [hout] at out
      refine ⟨_, rfl, m, _, rfl, .inl (SqL.of hm2), _, rfl, _, _, rfl, rfl, _, rfl, ?_⟩
      rw [List.length_map, List.length_cons]
      by_cases hlt : vs.length < k'
      · rw [decide_eq_true (show ((vs.length + 1 : Nat) : Int) < ((k' + 1 : Nat) : Int) by omega)]
        obtain ⟨j, hj⟩ : ∃ j, k' - vs.length = j + 1 := ⟨k' - vs.length - 1, by omega⟩
        rw [hj, vals_next] at out
        refine iteT ⟨fun σ' H' => ∃ mm, mm < k' - vs.length ∧ ∃ (v : Int) (vs : List Int) (lr : Toks), σ' = [some (.ref r), some (nV (k' + 1)), some (.ref m)] ∧ SameR r H H' ∧ RdAt A (fun q => S q ∨ q = m) H' r lr ∧ EndsL lr ∧ H' m = some (.lst ((v :: vs).map V.int)) ∧ vs.length ≤ k' ∧
          (takeValues k' [y0.1] y0.2 = takeValues (k' - vs.length) (v :: vs) lr) ∧ mm = k' - vs.length, fun _ _ z => z, ?_⟩
        -- reader.take((",",))
        refine take_go [","] rfl hR2 (fun hc => ?_) (fun hc H3 a s3 hR3 hT3 => ?_)
        · have e1 : VaskyBase.tokEq u.tok (.sign 44) = false := bool_not fun z => con1f hc (kd_sign.mpr z)
          unfold VaskyBase.takeSign at out
          rw [taken_no e1] at out
          exact fR.mono s2 out
        have e1 := (kd_sign (c := 44)).mp (con1.mp hc)
        unfold VaskyBase.takeSign at out
        rw [taken_yes e1, ok_bind] at out
        have hE3 : EndsL l3 := hE2.next (eq_notlast e1 (by intro z; cases z))
        have hm3 : H3 m = some (.lst ((v :: vs).map V.int)) := s3 _ _ hmr.symm hm2
        -- row.append(read_value(reader))
        refine ⟨_, rfl, .inl ⟨rfl, _, SqL.of hm3⟩, _, rfl, r, (fun q => S q ∨ q = m), l3, rfl, hR3, hE3, ?_⟩
        cases hv : takeInt l3 with
        | error fl =>
          rw [hv] at out
          exact fR.mono (s2.trans s3) out
        | ok y =>
          rw [hv, ok_bind] at out
          intro H4 s4 hR4 hE4
          have hm4 : H4 m = some (.lst ((v :: vs).map V.int)) := s4 _ _ hmr.symm hm3
          refine ⟨m, _, _, rfl, rfl, hm4, ?_, k' - (vs ++ [y.1]).length, ?_, v, vs ++ [y.1], y.2, rfl, sameR_put ((s2.trans s3).trans s4) nm0, hR4.write (.inr rfl) hmr, hE4, ?_, ?_, ?_, rfl⟩
          · rw [List.length_map, List.length_cons]
            exact small1000 (by omega)
          · rw [List.length_append, List.length_singleton]
            omega
          · rw [upd_same, ← List.cons_append, List.map_append]
            rfl
          · rw [List.length_append, List.length_singleton]
            omega
          · rw [hout, hj, vals_next]
            unfold VaskyBase.takeSign
            rw [taken_yes e1, ok_bind, hv, ok_bind, List.length_append, List.length_singleton, show k' - (vs.length + 1) = j by omega]
            rfl
      · rw [decide_eq_false (show ¬ ((vs.length + 1 : Nat) : Int) < ((k' + 1 : Nat) : Int) by omega)]
        rw [show k' - vs.length = 0 by omega, vals_done, ok_bind] at out
        unfold VaskyBase.takeSign at out
        -- reader.take((";",))
        refine iteF (take_go [";"] rfl hR2 (fun hc => ?_) (fun hc H3 a s3 hR3 hT3 => ?_))
        · have e1 : VaskyBase.tokEq u.tok (.sign 59) = false := bool_not fun z => con1f hc (kd_sign.mpr z)
          rw [taken_no e1] at out
          exact fR.mono s2 out
        have e1 := (kd_sign (c := 59)).mp (con1.mp hc)
        rw [taken_yes e1] at out
        have hE3 : EndsL l3 := hE2.next (eq_notlast e1 (by intro z; cases z))
        refine ⟨_, rfl, ?_⟩
        exact out H3 m (s2.trans s3) nm0 (hR3.less (fun q z => .inl z) hR.1) hE3 (s3 _ _ hmr.symm hm2)
end
end Ub
/-! Plain mathematics of what is read. -/
namespace Ub
open VaskyBase
open Vaskya (Measure Item Sheet takeMeasures takeInt takeValues takeItems)
/-! ### the tokens of a text -/
def NmOk (l : Toks) : Prop := ∀ t ∈ l, ∀ b, t.tok = .name b → b.length ≤ 16
theorem NmOk.suf {l l' : Toks} (h : NmOk l) (s : l' <:+ l) : NmOk l' := fun t ht => h t (s.subset ht)
theorem tokP_ok {p : Bytes} {t : Tok} (h : tokP p = some t) : t ≠ .last ∧ ∀ b, t = .name b → b.length ≤ 16 := by
  cases p with
  | nil => cases h
  | cons c r =>
    have h' : (if isLetter c = true then (if 16 < (c :: r).length then none else some (Tok.name (c :: r))) else if isDigit c = true then (numberOf (c :: r)).map Tok.num else if SIGNS.contains c = true then some (.sign c.toNat) else none) = some t := h
    clear h
    split at h'
    · split at h'
      · cases h'
      · cases h'
        exact ⟨fun e => (by cases e), fun b e => (by cases e; omega)⟩
    · split at h'
      · obtain ⟨n, _, rfl⟩ := Option.map_eq_some_iff.mp h'
        exact ⟨fun e => (by cases e), fun b e => (by cases e)⟩
      · split at h'
        · cases h'
          exact ⟨fun e => (by cases e), fun b e => (by cases e)⟩
        · cases h'
theorem lexF_ok : ∀ (n : Nat) (at_ : Nat) (l : Bytes) (ts : Toks), l.length ≤ n → lexF at_ l = .ok ts → EndsL ts ∧ NmOk ts
  | 0, at_, l, ts, h, e => by
    have e0 : l = [] := List.length_eq_zero_iff.mp (by omega)
    subst e0
    rw [lexF_nil] at e
    cases e
    exact ⟨.inl ⟨rfl, rfl⟩, fun t ht b hb => by
      rw [List.mem_singleton.mp ht] at hb
      cases hb⟩
  | n + 1, at_, [], ts, h, e => by
    rw [lexF_nil] at e
    cases e
    exact ⟨.inl ⟨rfl, rfl⟩, fun t ht b hb => by
      rw [List.mem_singleton.mp ht] at hb
      cases hb⟩
  | n + 1, at_, c :: r, ts, h, e => by
    rw [List.length_cons] at h
    cases hb : isBlank c with
    | true =>
      rw [lexF_blank hb] at e
      exact lexF_ok n _ r ts (by omega) e
    | false =>
      cases hr : (c == 35) with
      | true =>
        rw [lexF_remark hb hr] at e
        have := dropWhile_le notLf r
        exact lexF_ok n _ _ ts (by omega) e
      | false =>
        rw [lexF_piece ⟨hb, hr⟩] at e
        cases hp : tokP (pieceOf (c :: r)) with
        | none => rw [hp] at e; cases e
        | some t =>
          rw [hp] at e
          have hl := tokLen_pos (b := c) (r := r)
          cases hq : lexF (at_ + tokLen (c :: r)) ((c :: r).drop (tokLen (c :: r))) with
          | error f =>
            have e' : (lexF (at_ + tokLen (c :: r)) ((c :: r).drop (tokLen (c :: r)))).map (fun l => (⟨at_, t⟩ : PTok) :: l) = .ok ts := e
            rw [hq] at e'
            cases e'
          | ok l' =>
            have e' : (lexF (at_ + tokLen (c :: r)) ((c :: r).drop (tokLen (c :: r)))).map (fun l => (⟨at_, t⟩ : PTok) :: l) = .ok ts := e
            rw [hq] at e'
            have e2 : (⟨at_, t⟩ : PTok) :: l' = ts := Except.ok.inj e'
            obtain ⟨i1, i2⟩ := lexF_ok n _ _ l' (by rw [List.length_drop, List.length_cons]; omega) hq
            obtain ⟨k1, k2⟩ := tokP_ok hp
            rw [← e2]
            refine ⟨.inr ⟨k1, i1⟩, fun u hu b hb => ?_⟩
            rcases List.mem_cons.mp hu with rfl | hu
            · exact k2 b hb
            · exact i2 u hu b hb
theorem tokens_ok {bs : Bytes} {ts : Toks} (h : tokens bs = .ok ts) : EndsL ts ∧ NmOk ts := by
  rw [tokens_is] at h
  split at h
  · cases h
  · exact lexF_ok _ _ _ _ (Nat.le_refl _) h
/-! ### measures -/
theorem drop1_suf {α : Type} (l : List α) : l.drop 1 <:+ l := List.drop_suffix 1 l
theorem taken_suf {k : Tok} {l r : Toks} (h : taken k l = .ok r) : r <:+ l := by
  unfold taken at h
  split at h
  · cases h
    exact drop1_suf l
  · cases h
theorem name_ok {l : Toks} {x : PName × Toks} (h : takeName l = .ok x) : x.2 <:+ l ∧ x.2.length < l.length ∧ (NmOk l → x.1.name.length ≤ 16) := by
  cases l with
  | nil => cases h
  | cons t r =>
    by_cases hn : ∃ b, t.tok = .name b ∧ RESERVED.contains b = false
    · obtain ⟨b, hb, hr⟩ := hn
      rw [name_head hb hr] at h
      cases h
      exact ⟨List.suffix_cons t r, Nat.lt_succ_self _, fun o => o t List.mem_cons_self b hb⟩
    · rw [name_not hn] at h
      cases h
theorem dir_suf {l : Toks} {u : Bool × Toks} (h : dirOf l = .ok u) : u.2 <:+ l := by
  unfold dirOf at h
  split at h
  · cases h
    exact drop1_suf l
  · unfold takeWord at h
    cases ht : taken (.name (word "down")) l with
    | error e => rw [ht] at h; cases h
    | ok r =>
      rw [ht] at h
      cases h
      exact taken_suf ht
theorem readM_ok {ms : List Measure} {l : Toks} {y : Measure × Toks} (h : readM ms l = .ok y) : y.2 <:+ l ∧ ms.length < 4 ∧ (NmOk l → y.1.name.length ≤ 16) := by
  have h4 := readM_bound h
  unfold readM at h
  cases hn : takeName l with
  | error e => rw [hn] at h; cases h
  | ok x =>
    obtain ⟨n1, _, n2⟩ := name_ok hn
    rw [hn, ok_bind] at h
    split at h
    · cases h
    · split at h
      · cases h
      · cases hd : dirOf x.2 with
        | error e => rw [hd] at h; cases h
        | ok u =>
          rw [hd, ok_bind] at h
          cases h
          exact ⟨(dir_suf hd).trans n1, h4, n2⟩
theorem takeMs_ok : ∀ (n : Nat) (ms : List Measure) (l : Toks) (y : List Measure × Toks), takeMeasures n ms l = .ok y → NmOk l → (∀ m ∈ ms, m.name.length ≤ 16) →
    y.2 <:+ l ∧ 1 ≤ y.1.length ∧ y.1.length ≤ 4 ∧ ∀ m ∈ y.1, m.name.length ≤ 16
  | 0, ms, l, y, h, _, _ => by cases h
  | n + 1, ms, l, y, h, ok, hm => by
    rw [takeMs_succ] at h
    cases hr : readM ms l with
    | error e => rw [hr] at h; cases h
    | ok x =>
      rw [hr, ok_bind] at h
      obtain ⟨r1, r2, r3⟩ := readM_ok hr
      have hm' : ∀ m ∈ ms ++ [x.1], m.name.length ≤ 16 := fun m hx => by
        rcases List.mem_append.mp hx with hx | hx
        · exact hm m hx
        · rw [List.mem_singleton.mp hx]
          exact r3 ok
      unfold afterM at h
      split at h
      · obtain ⟨i1, i2, i3, i4⟩ := takeMs_ok n _ _ y h ((ok.suf r1).suf (drop1_suf _)) hm'
        exact ⟨(i1.trans (drop1_suf _)).trans r1, i2, i3, i4⟩
      · unfold takeSign at h
        cases ht : taken (.sign 59) x.2 with
        | error e => rw [ht] at h; cases h
        | ok r =>
          rw [ht] at h
          cases h
          refine ⟨(taken_suf ht).trans r1, ?_, ?_, hm'⟩
          · rw [List.length_append, List.length_singleton]; omega
          · rw [List.length_append, List.length_singleton]; omega
theorem readMs_ok {l : Toks} {y : List Measure × Toks} (h : readMs l = .ok y) (ok : NmOk l) : y.2 <:+ l ∧ 1 ≤ y.1.length ∧ y.1.length ≤ 4 ∧ ∀ m ∈ y.1, m.name.length ≤ 16 := by
  unfold readMs takeWord at h
  cases ht : taken (.name (word "measures")) l with
  | error e => rw [ht] at h; cases h
  | ok r =>
    rw [ht, ok_bind] at h
    have s := taken_suf ht
    obtain ⟨i1, i2⟩ := takeMs_ok _ _ _ y h (ok.suf s) (fun m hm => nomatch hm)
    exact ⟨i1.trans s, i2⟩
/-! ### values, items -/
theorem int_ok {l : Toks} {y : Int × Toks} (h : takeInt l = .ok y) : y.2 <:+ l ∧ -1000 ≤ y.1 ∧ y.1 ≤ 1000 := by
  cases l with
  | nil => cases h
  | cons t r =>
    cases hm : tokEq t.tok (.sign 45) with
    | true =>
      cases r with
      | nil =>
        unfold takeInt at h
        rw [next_is, hm] at h
        cases h
      | cons u l2 =>
        by_cases hn : ∃ n, u.tok = .num n
        · obtain ⟨n, hn⟩ := hn
          rw [int_neg hm hn] at h
          split at h
          · cases h
          · cases h
            refine ⟨(List.suffix_cons u l2).trans (List.suffix_cons t _), ?_, ?_⟩
            · show -1000 ≤ -(n : Int)
              omega
            · show -(n : Int) ≤ 1000
              omega
        · rw [int_neg_not hm hn] at h
          cases h
    | false =>
      by_cases hn : ∃ n, t.tok = .num n
      · obtain ⟨n, hn⟩ := hn
        rw [int_pos hn] at h
        split at h
        · cases h
        · cases h
          refine ⟨List.suffix_cons t r, ?_, ?_⟩
          · show -1000 ≤ (n : Int)
            omega
          · show (n : Int) ≤ 1000
            omega
      · rw [int_not hm hn] at h
        cases h
theorem vals_succ (n : Nat) (vs : List Int) (l : Toks) : takeValues (n + 1) vs l = (if vs.isEmpty = true then (Except.ok l : Ex Toks) else takeSign 44 l).bind fun r => (takeInt r).bind fun x => takeValues n (vs ++ [x.1]) x.2 := rfl
theorem vals_ok : ∀ (n : Nat) (vs : List Int) (l : Toks) (y : List Int × Toks), takeValues n vs l = .ok y → (∀ v ∈ vs, -1000 ≤ v ∧ v ≤ 1000) → y.2 <:+ l ∧ y.1.length = vs.length + n ∧ ∀ v ∈ y.1, -1000 ≤ v ∧ v ≤ 1000
  | 0, vs, l, y, h, hv => by
    cases h
    exact ⟨List.suffix_refl l, rfl, hv⟩
  | n + 1, vs, l, y, h, hv => by
    rw [vals_succ] at h
    have key : ∀ r : Toks, r <:+ l → ((takeInt r).bind fun x => takeValues n (vs ++ [x.1]) x.2) = .ok y → y.2 <:+ l ∧ y.1.length = vs.length + (n + 1) ∧ ∀ v ∈ y.1, -1000 ≤ v ∧ v ≤ 1000 := fun r hr h => by
      cases hi : takeInt r with
      | error e => rw [hi] at h; cases h
      | ok x =>
        rw [hi, ok_bind] at h
        obtain ⟨x1, x2, x3⟩ := int_ok hi
        obtain ⟨i1, i2, i3⟩ := vals_ok n _ _ y h (fun v hx => by
          rcases List.mem_append.mp hx with hx | hx
          · exact hv v hx
          · rw [List.mem_singleton.mp hx]
            exact ⟨x2, x3⟩)
        rw [List.length_append, List.length_singleton] at i2
        exact ⟨(i1.trans x1).trans hr, by omega, i3⟩
    split at h
    · exact key l (List.suffix_refl l) h
    · unfold takeSign at h
      cases ht : taken (.sign 44) l with
      | error e => rw [ht] at h; cases h
      | ok r =>
        rw [ht] at h
        exact key r (taken_suf ht) h
theorem readR_ok {k : Nat} {l : Toks} {y : List Int × Toks} (h : readR k l = .ok y) : y.2 <:+ l ∧ y.1.length = k ∧ ∀ v ∈ y.1, -1000 ≤ v ∧ v ≤ 1000 := by
  unfold readR at h
  cases hv : takeValues k [] l with
  | error e => rw [hv] at h; cases h
  | ok x =>
    rw [hv, ok_bind] at h
    obtain ⟨i1, i2, i3⟩ := vals_ok _ _ _ _ hv (fun v hx => nomatch hx)
    unfold takeSign at h
    cases ht : taken (.sign 59) x.2 with
    | error e => rw [ht] at h; cases h
    | ok r =>
      rw [ht] at h
      cases h
      rw [List.length_nil, Nat.zero_add] at i2
      exact ⟨(taken_suf ht).trans i1, i2, i3⟩
def ItemOk (k : Nat) (i : Item) : Prop := i.name.length ≤ 16 ∧ i.vs.length = k ∧ ∀ v ∈ i.vs, -1000 ≤ v ∧ v ≤ 1000
theorem items_ok (k : Nat) : ∀ (n : Nat) (is : List Item) (l : Toks) (y : List Item), takeItems k n is l = .ok y → NmOk l → is.length ≤ 16 → (∀ i ∈ is, ItemOk k i) → y.length ≤ 16 ∧ ∀ i ∈ y, ItemOk k i
  | 0, is, l, y, h, _, _, _ => by cases h
  | n + 1, is, [], y, h, _, _, _ => by cases h
  | n + 1, is, t :: r, y, h, ok, h16, hi => by
    by_cases hl : t.tok = .last
    · rw [items_last hl] at h
      cases h
      exact ⟨h16, hi⟩
    · cases hw : tokEq t.tok (.name (word "item")) with
      | false =>
        rw [items_not hl hw] at h
        cases h
      | true =>
        rw [items_item hw] at h
        unfold itemStep at h
        split at h
        · cases h
        · cases hn : takeName r with
          | error e => rw [hn] at h; cases h
          | ok x =>
            obtain ⟨n1, _, n2⟩ := name_ok hn
            have okr : NmOk r := ok.suf (List.suffix_cons t r)
            rw [hn, ok_bind] at h
            split at h
            · cases h
            · unfold takeSign at h
              cases ht : taken (.sign 58) x.2 with
              | error e => rw [ht] at h; cases h
              | ok r2 =>
                rw [ht, ok_bind] at h
                cases hv : readR k r2 with
                | error e => rw [hv] at h; cases h
                | ok v =>
                  rw [hv, ok_bind] at h
                  obtain ⟨v1, v2, v3⟩ := readR_ok hv
                  refine items_ok k n _ _ y h (okr.suf ((v1.trans (taken_suf ht)).trans n1)) ?_ fun i hx => ?_
                  · rw [List.length_append, List.length_singleton]
                    omega
                  · rcases List.mem_append.mp hx with hx | hx
                    · exact hi i hx
                    · rw [List.mem_singleton.mp hx]
                      exact ⟨n2 okr, v2, v3⟩
/-! ### the whole -/
theorem read_is (b : Bytes) : Vaskya.read b = (tokens b).bind fun l => (readMs l).bind fun x => (takeItems x.1.length (x.2.length + 1) [] x.2).map fun is => ⟨x.1, is⟩ := by
  unfold Vaskya.read
  cases tokens b with
  | error e => rfl
  | ok l =>
    rw [ok_bind, ok_bind]
    unfold readMs
    cases takeWord "measures" l <;> rfl
theorem read_good {b : Bytes} {s : Sheet} (h : Vaskya.read b = .ok s) : Good s := by
  rw [read_is] at h
  cases ht : tokens b with
  | error e => rw [ht] at h; cases h
  | ok l =>
    rw [ht, ok_bind] at h
    obtain ⟨t1, t2⟩ := tokens_ok ht
    cases hm : readMs l with
    | error e => rw [hm] at h; cases h
    | ok x =>
      rw [hm, ok_bind] at h
      obtain ⟨m1, m2, m3, m4⟩ := readMs_ok hm t2
      cases hi : takeItems x.1.length (x.2.length + 1) [] x.2 with
      | error e => rw [hi] at h; cases h
      | ok is =>
        rw [hi] at h
        cases h
        obtain ⟨i1, i2⟩ := items_ok _ _ _ _ _ hi (t2.suf m1) (by decide) (fun i hx => nomatch hx)
        exact ⟨m2, m3, i1, fun i hx => (i2 i hx).2.1, m4, fun i hx => (i2 i hx).1, fun i hx => (i2 i hx).2.2⟩
end Ub
namespace Ub
open PySem PySem.Spec PyProof.Rows L2
open VaskyBase (Bytes word RESERVED PTok Toks tokens)
open Vaskya (takeMeasures takeInt takeValues takeItems)
section
variable {P : Program} {w : World} {K : PySem.W.Frag} {mg : Str → Option Value} {base : Heap} {A : Ad}
/-! ### read_members -/
theorem named_is (T : Txt K mg A) {S : Addr → Prop} {H : Hp} {as : List Addr} {is : List Vaskya.Item} (h : All2 (ItemAt A (off S H)) as is) : All2 (NamedAt K H) as (is.map (·.name)) := by
  refine ⟨by rw [h.1, List.length_map], fun i a nm ha hn => ?_⟩
  obtain ⟨m, hm, rfl⟩ := map_get hn
  obtain ⟨dx, n, r, h1, h2, _⟩ := h.2 i a m ha hm
  exact ⟨A.itm, dx, n, _, T.cI, T.nIn, off_same _ _ h1, lu_name, off_same _ _ h2⟩
def spReadIs (K : PySem.W.Frag) (A : Ad) : Sp := fun vs H Q E => ∃ (r : Addr) (S : Addr → Prop) (l : Toks) (k : Nat), vs = [.ref r, nV k] ∧ Dom S H ∧ RdAt A S H r l ∧ EndsL l ∧ 1 ≤ k ∧ k ≤ 4 ∧
  outR A r H E (fun is => ∀ H' m, SameR r H H' → H m = none → IsAt A (off S H') m is → Q (.ref m) H') (takeItems k (l.length + 1) [] l)
abbrev s_read_members : Stmt := top 54
theorem sc_read_members : FnScope ["reader", "size", "members", "token", "name"] ["reader", "size"] (defScope s_read_members) := ⟨rfl, rfl, rfl, by decide +kernel, rfl, by decide +kernel, by decide +kernel⟩
theorem c_read_members (T : Txt K mg A) (c_take : Me P w K mg base (L2.CX P w) 2 A.rdr "take" (spTake K A)) (c_check_room : Ca P w K mg base (L2.CX P w) 2 "check_room" (spCheckRoom A)) (c_check_new : Ca P w K mg base (L2.CX P w) 2 "check_new" (spCheckNew K A))
    (c_read_row : Ca P w K mg base (L2.CX P w) 4 "read_row" (spReadRow K A)) (MItem : Ma P w K mg base 1 "Item" A.itm (spInit2 A.itm "name" "row")) (D : Dn K mg "read_members" s_read_members ["reader", "size"]) : Ca P w K mg base (L2.CX P w) 5 "read_members" (spReadIs K A) := by
  have sc := sc_read_members
  refine D.cx sc (fun vs H Q E h => ?_) (fun f cdv Ar outer s H vs Q E hr h => ?_)
  · obtain ⟨r, S, l, k, rfl, _⟩ := h
    rfl
  · obtain ⟨r, S, l, k, rfl, d, hR, hE, hk1, hk4, out⟩ := h
    have hx : Passes (L2.CX P w) (cxOf (L2.CX P w) P w K mg base ["reader", "size", "members", "token", "name"] "read_members" (defScope s_read_members) f cdv Ar outer s H E) E := passes_call (takes_of rfl rfl rfl rfl) (fun _ _ _ _ h => h)
    refine ⟨_, (pss_cons (ps_set (i := 2) sc.nd rfl (Or.inl rfl) (pe_lst pa_nil))
      (pss_cons (ps_set (i := 3) sc.nd rfl (Or.inl rfl) (pe_mx c_take T.cR hr hx (pv 0) (pa_cons (pe_tup (pa_cons pe_str (pa_cons pe_str pa_nil))) pa_nil)))
      (pss_cons (ps_while (passes_of rfl) (pt_cmpR op_eq (pe_fld (pv 3) rfl) pe_str (nomark _)) (pss_cons (ps_expr (pe_cx c_check_room hr hx (pa_cons (pv 3) (pa_cons (pv 2) (pa_cons (pe_gi rfl T.gMOST_ITEMS) pa_nil)))))
      (pss_cons (ps_set (i := 4) sc.nd rfl (Or.inl rfl) (pe_mx c_take T.cR hr hx (pv 0) (pa_cons (pe_tup (pa_cons pe_str pa_nil)) pa_nil)))
      (pss_cons (ps_expr (pe_cx c_check_new hr hx (pa_cons (pv 4) (pa_cons (pv 2) pa_nil))))
      (pss_cons (ps_expr (pe_mx c_take T.cR hr hx (pv 0) (pa_cons (pe_tup (pa_cons pe_str pa_nil)) pa_nil)))
      (pss_cons (ps_expr (pe_bm PySem.F.plainAttrs_list PySem.F.slot_list_append PySem.F.type_list_append mt_append (pv 2) (pa_cons (pe_ma MItem hr (pa_cons (pe_fld (pv 4) rfl) (pa_cons (pe_cx c_read_row hr hx (pa_cons (pv 0) (pa_cons (pv 1) pa_nil))) pa_nil))) pa_nil)))
      (pss_one (ps_set (i := 3) sc.nd rfl (Or.inl rfl) (pe_mx c_take T.cR hr hx (pv 0) (pa_cons (pe_tup (pa_cons pe_str (pa_cons pe_str pa_nil))) pa_nil))))))))))
      (pss_one (ps_ret (pv 2)))))), ?_⟩
    obtain ⟨t0, l1, rfl⟩ := hE.cons
    -- members = []
    refine ⟨Nat.zero_le _, fun m nm => ?_⟩
    have hmr : r ≠ m := fun z => hR.there (by rw [z]; exact nm)
    have hR0 := hR.grow (o := .lst []) nm
    have sm : SameR r H (upd H m (.lst [])) := Same.b (same_new nm)
    -- token = reader.take(("item", "end"))
    refine take_go ["item", "end"] rfl hR0 (fun hc => ?_) (fun hc H1 ta s1 hR1 hT1 => ?_)
    · obtain ⟨n1, n2⟩ := con2f hc
      rw [items_not (fun z => n2 (kd_end.mpr z)) (bool_not fun z => n1 ((kd_word (.inr (.inr (.inr rfl)))).mpr z))] at out
      exact fR.mono sm out
    have d1 : Dom (fun q => S q ∨ q = m) H1 := s1.dom d.grow hR1.there
    have s01 : SameR r H H1 := sm.trans s1
    -- the loop
    refine ⟨fun mm σ H' => ∃ (is : List Vaskya.Item) (as : List Addr) (t : PTok) (ta : Addr) (lr : Toks) (n : Nat) (v4 : Option V), σ = [some (.ref r), some (nV k), some (.ref m), some (.ref ta), v4] ∧ SameR r H H' ∧ RdAt A (fun q => S q ∨ q = m) H' r lr ∧ Dom (fun q => S q ∨ q = m) H' ∧
      H' m = some (.lst (as.map V.ref)) ∧ All2 (ItemAt A (off (fun q => S q ∨ q = m) H')) as is ∧ is.length ≤ 16 ∧ TokAt A (off (fun q => S q ∨ q = m) H') ta t ∧
      ((t.tok = .last ∧ takeItems k ((t0 :: l1).length + 1) [] (t0 :: l1) = .ok is) ∨ (VaskyBase.tokEq t.tok (.name (word "item")) = true ∧ EndsL lr ∧ takeItems k ((t0 :: l1).length + 1) [] (t0 :: l1) = itemStep k n is t.place lr ∧ lr.length ≤ n)) ∧ mm = lr.length,
      ⟨_, [], [], t0, ta, l1, (t0 :: l1).length, none, rfl, s01, hR1, d1, s1 _ _ hmr.symm upd_same, All2.nil, by decide, hT1, ?_, rfl⟩, ?_⟩
    · rcases con2.mp hc with h | h
      · have e := (kd_word (s := "item") (.inr (.inr (.inr rfl)))).mp h
        refine .inr ⟨e, hE.next (eq_notlast e (by intro z; cases z)), items_item e, ?_⟩
        rw [List.length_cons]
        exact Nat.le_succ _
      · have e := kd_end.mp h
        exact .inl ⟨e, items_last e⟩
    · rintro mm σ H' ⟨is, as, t, ta, lr, n, v4, rfl, s3, hR3, d3, hm3, hA3, h16, hT3, hcase, rfl⟩
      obtain ⟨dt, sd, ht3, hsd3⟩ := id (TokAt.mono off_same hT3)
      refine ⟨_, rfl, ta, _, dt, _, _, rfl, ht3, T.cT, T.nTk, lt_kind, rfl, _, rfl, ?_⟩
      have ed : decide (V.str (kindS t.tok) = V.str "item") = VaskyBase.tokEq t.tok (.name (word "item")) := by
        rw [Bool.eq_iff_iff, decide_eq_true_iff, ← kd_word (.inr (.inr (.inr rfl)))]
        exact ⟨fun z => by injection z, fun z => by rw [z]⟩
      rw [ed]
      rcases hcase with ⟨hl, hout⟩ | ⟨hit, hE3, hout, hn⟩
      · have hne : VaskyBase.tokEq t.tok (.name (word "item")) = false := by
          rw [hl]
          rfl
        rw [hne]
        rw [hout] at out
        have nm0 := nm
        refine iteF ⟨_, rfl, ?_⟩
        refine out H' m s3 nm ⟨as, ?_, hA3.mono fun _ _ z => z.mono (off_mono fun q z => .inl z)⟩
        rw [off_new d nm]
        exact hm3
      · rw [hit]
        rw [hout] at out
        unfold itemStep at out
        refine iteT ⟨fun σ' H' => ∃ mm, mm < lr.length ∧ ∃ (is : List Vaskya.Item) (as : List Addr) (t : PTok) (ta : Addr) (lr : Toks) (n : Nat) (v4 : Option V), σ' = [some (.ref r), some (nV k), some (.ref m), some (.ref ta), v4] ∧ SameR r H H' ∧ RdAt A (fun q => S q ∨ q = m) H' r lr ∧ Dom (fun q => S q ∨ q = m) H' ∧
          H' m = some (.lst (as.map V.ref)) ∧ All2 (ItemAt A (off (fun q => S q ∨ q = m) H')) as is ∧ is.length ≤ 16 ∧ TokAt A (off (fun q => S q ∨ q = m) H') ta t ∧
          ((t.tok = .last ∧ takeItems k ((t0 :: l1).length + 1) [] (t0 :: l1) = .ok is) ∨ (VaskyBase.tokEq t.tok (.name (word "item")) = true ∧ EndsL lr ∧ takeItems k ((t0 :: l1).length + 1) [] (t0 :: l1) = itemStep k n is t.place lr ∧ lr.length ≤ n)) ∧ mm = lr.length, fun _ _ z => z, ?_⟩
        -- check_room(token, members, MOST_ITEMS)
        refine ⟨_, rfl, _, rfl, ta, m, t, _, 16, rfl, TokAt.mono off_same hT3, hm3, ?_⟩
        rw [List.length_map, hA3.1]
        by_cases hfull : is.length = 16
        · rw [if_pos hfull]
          rw [if_pos (by omega)] at out
          exact (fR.mono s3 out).e
        rw [if_neg hfull]
        rw [if_neg (by omega)] at out
        -- name = reader.take(("name",))
        obtain ⟨u, l2, rfl⟩ := hE3.cons
        refine take_go ["name"] rfl hR3 (fun hc2 => ?_) (fun hc2 H4 na s4 hR4 hT4 => ?_)
        · rw [name_not (fun z => con1f hc2 (kd_name.mpr z))] at out
          exact fR.mono s3 out
        obtain ⟨b, hub, hres⟩ := kd_name.mp (con1.mp hc2)
        rw [name_head hub hres, ok_bind] at out
        have hE4 : EndsL l2 := hE3.next (by rw [hub]; intro z; cases z)
        have hm4 : H4 m = some (.lst (as.map V.ref)) := s4 _ _ hmr.symm hm3
        have hA4 : All2 (ItemAt A (off (fun q => S q ∨ q = m) H4)) as is := hA3.mono fun _ _ z => z.mono (s4.off hR3.1)
        have s04 : SameR r H H4 := s3.trans s4
        -- check_new(name, members)
        refine ⟨_, rfl, _, rfl, na, m, u, b, as, _, rfl, TokAt.mono off_same hT4, hub, hres, hm4, named_is T hA4, ?_⟩
        rw [List.any_map]
        by_cases hnew : (is.any fun i => i.name == b) = true
        · rw [if_pos hnew] at out
          rw [if_pos (show (is.any ((fun n => n == b) ∘ fun x => x.name)) = true from hnew)]
          exact (fR.mono s04 out).e
        rw [if_neg hnew] at out
        rw [if_neg (show ¬ (is.any ((fun n => n == b) ∘ fun x => x.name)) = true from hnew)]
        -- reader.take((":",))
        obtain ⟨v, l3, rfl⟩ := hE4.cons
        unfold VaskyBase.takeSign at out
        refine take_go [":"] rfl hR4 (fun hc3 => ?_) (fun hc3 H5 ca s5 hR5 hT5 => ?_)
        · have e1 : VaskyBase.tokEq v.tok (.sign 58) = false := bool_not fun z => con1f hc3 (kd_sign.mpr z)
          rw [taken_no e1] at out
          exact fR.mono s04 out
        have e58 := (kd_sign (c := 58)).mp (con1.mp hc3)
        rw [taken_yes e58, ok_bind] at out
        have hE5 : EndsL l3 := hE4.next (eq_notlast e58 (by intro z; cases z))
        have hm5 : H5 m = some (.lst (as.map V.ref)) := s5 _ _ hmr.symm hm4
        have s05 : SameR r H H5 := s04.trans s5
        have d5 : Dom (fun q => S q ∨ q = m) H5 := s5.dom (s4.dom d3 hR4.there) hR5.there
        -- members.append(Item(name.said, read_row(reader, size)))
        have hT45 : TokAt A (off (fun q => S q ∨ q = m) H5) na u := hT4.mono (s5.off hR4.1)
        obtain ⟨du, sdu, hu5, hsu5⟩ := id hT45
        rw [hub] at hsu5
        obtain ⟨q, rfl, hq5⟩ := hsu5.resolve_left (by rw [hres]; exact Bool.false_ne_true)
        refine ⟨_, rfl, .inl ⟨rfl, _, SqL.of hm5⟩, _, rfl, na, _, du, _, _, rfl, off_same _ _ hu5, T.cT, T.nTs, lt_said, _, rfl, _, rfl, r, (fun q => S q ∨ q = m), l3, k, rfl, d5, hR5, hE5, hk1, hk4, ?_⟩
        cases hrow : readR k l3 with
        | error fl =>
          rw [hrow] at out
          exact fR.mono s05 out
        | ok y =>
          rw [hrow, ok_bind] at out
          obtain ⟨y1, y2, y3⟩ := readR_ok hrow
          intro H6 rw_ s6 nrw hR6 hE6 hw6 x dx nx nd ne
          refine ⟨x, dx, _, _, rfl, upd_same, rfl, ?_⟩
          have d6 : Dom (fun q => S q ∨ q = m) H6 := s6.dom d5 hR6.there
          have sI : Same H6 (newI H6 x dx A.itm [("name", .ref q), ("row", .ref rw_)]) := newI_same nx nd
          have s06 : SameR r H H6 := s05.trans s6
          have hm6 : H6 m = some (.lst (as.map V.ref)) := s6 _ _ hmr.symm hm5
          have hmI := sI _ _ hm6
          refine ⟨m, _, _, rfl, rfl, hmI, ?_, ?_⟩
          · rw [List.length_map, hA3.1]
            exact small1000 (by omega)
          have hA6 : All2 (ItemAt A (off (fun q => S q ∨ q = m) (newI H6 x dx A.itm [("name", .ref q), ("row", .ref rw_)]))) as is := hA4.mono fun _ _ z => ((z.mono (s5.off hR4.1)).mono (s6.off hR5.1)).mono (Same.off sI)
          have hx6 : ItemAt A (off (fun q => S q ∨ q = m) (newI H6 x dx A.itm [("name", .ref q), ("row", .ref rw_)])) x ⟨b, y.1⟩ := by
            refine ⟨dx, q, rw_, ?_, ?_, ?_⟩
            · rw [off_new d6 nx]
              exact newI_at
            · exact Same.off sI _ _ (s6.off hR5.1 _ _ hq5)
            · rw [off_new d5 nrw]
              exact sI _ _ hw6
          have dW : Dom (fun q => S q ∨ q = m) (upd (newI H6 x dx A.itm [("name", .ref q), ("row", .ref rw_)]) m (.lst (as.map V.ref ++ [.ref x]))) := (d6.mono sI).write
          have hRW : RdAt A (fun q => S q ∨ q = m) (upd (newI H6 x dx A.itm [("name", .ref q), ("row", .ref rw_)]) m (.lst (as.map V.ref ++ [.ref x]))) r y.2 := (hR6.same sI).write (.inr rfl) hmr
          have sW : SameR r H (upd (newI H6 x dx A.itm [("name", .ref q), ("row", .ref rw_)]) m (.lst (as.map V.ref ++ [.ref x]))) := sameR_put (s06.trans (Same.b sI)) nm
          have eW : off (fun q => S q ∨ q = m) (upd (newI H6 x dx A.itm [("name", .ref q), ("row", .ref rw_)]) m (.lst (as.map V.ref ++ [.ref x]))) = off (fun q => S q ∨ q = m) (newI H6 x dx A.itm [("name", .ref q), ("row", .ref rw_)]) := off_write (S := fun q => S q ∨ q = m) (p := m) (.inr rfl)
          -- token = reader.take(("item", "end"))
          obtain ⟨z, l5, hz5⟩ := hE6.cons
          rw [hz5] at hRW hE6 out
          have hy1 := y1.length_le
          rw [hz5, List.length_cons] at hy1
          rw [List.length_cons, List.length_cons] at hn
          obtain ⟨n', rfl⟩ : ∃ n', n = n' + 1 := ⟨n - 1, by omega⟩
          refine take_go ["item", "end"] rfl hRW (fun hc6 => ?_) (fun hc6 H7 tb s7 hR7 hT7 => ?_)
          · obtain ⟨n1, n2⟩ := con2f hc6
            rw [items_not (fun z => n2 (kd_end.mpr z)) (bool_not fun z => n1 ((kd_word (.inr (.inr (.inr rfl)))).mpr z))] at out
            exact fR.mono sW out
          refine ⟨l5.length, ?_, is ++ [⟨b, y.1⟩], as ++ [x], z, tb, l5, n', some (.ref na), rfl, sW.trans s7, hR7, s7.dom dW hR7.there, ?_, ?_, ?_, hT7, ?_, rfl⟩
          · rw [List.length_cons, List.length_cons]
            omega
          · rw [List.map_append]
            exact s7 _ _ hmr.symm upd_same
          · have := All2.snoc hA6 hx6
            rw [← eW] at this
            exact this.mono fun _ _ z => z.mono (s7.off hRW.1)
          · rw [List.length_append, List.length_singleton]
            omega
          · have hstep : takeItems k ((t0 :: l1).length + 1) [] (t0 :: l1) = takeItems k (n' + 1) (is ++ [⟨b, y.1⟩]) (z :: l5) := by
              rw [hout]
              unfold itemStep
              rw [if_neg (by omega), name_head hub hres, ok_bind, if_neg hnew]
              unfold VaskyBase.takeSign
              rw [taken_yes e58, ok_bind, hrow, ok_bind, hz5]
            rcases con2.mp hc6 with h | h
            · have e := (kd_word (s := "item") (.inr (.inr (.inr rfl)))).mp h
              refine .inr ⟨e, hE6.next (eq_notlast e (by intro z; cases z)), ?_, ?_⟩
              · rw [hstep, items_item e]
              · omega
            · have e := kd_end.mp h
              exact .inl ⟨e, by rw [hstep, items_last e]⟩
end
end Ub
namespace Ub
open PySem PySem.Spec PyProof.Rows L2
open VaskyBase (Bytes word RESERVED PTok Toks tokens)
open Vaskya (takeMeasures takeInt takeValues takeItems)
section
variable {P : Program} {w : World} {K : PySem.W.Frag} {mg : Str → Option Value} {base : Heap} {A : Ad}
/-! ### read_list -/
def spReadList (K : PySem.W.Frag) (A : Ad) : Sp := fun vs H Q E => ∃ (a : Addr) (bs : Bytes) (S : Addr → Prop), vs = [.ref a] ∧ H a = some (.lst (bs.map bV)) ∧ Dom S H ∧
  readOut A H E (fun sh => ∀ H' l, Same H H' → H l = none → SheetAt A (off S H') l sh → Q (.ref l) H') (Vaskya.read bs)
/-- from the reader's own: it is new -/
theorem SameR.new {r : Addr} {H H1 H2 : Hp} (s1 : Same H H1) (nr : H r = none) (s2 : SameR r H1 H2) : Same H H2 := fun b o e => s2 b o (ne_of_none e nr) (s1 b o e)
theorem fR_new {A : Ad} {r : Addr} {H H1 : Hp} {E : XK} {c p : Nat} (s1 : Same H H1) (nr : H r = none) (h : fE A H E c p) : fR A r H1 E c p := fun H' d s e => h H' d (SameR.new s1 nr s) e
abbrev s_read_list : Stmt := top 55
theorem sc_read_list : FnScope ["text", "reader", "measures", "members"] ["text"] (defScope s_read_list) := ⟨rfl, rfl, rfl, by decide +kernel, rfl, by decide +kernel, by decide +kernel⟩
theorem c_read_list (T : Txt K mg A) (c_tokens_of : Ca P w K mg base (L2.CX P w) 5 "tokens_of" (spTokens A)) (MReader : Ma P w K mg base 1 "Reader" A.rdr (spRdInit A)) (c_read_measures : Ca P w K mg base (L2.CX P w) 5 "read_measures" (spReadMs K A))
    (c_read_members : Ca P w K mg base (L2.CX P w) 5 "read_members" (spReadIs K A)) (MListing : Ma P w K mg base 1 "Listing" A.lst (spInit2 A.lst "measures" "members")) (D : Dn K mg "read_list" s_read_list ["text"]) : Ca P w K mg base (L2.CX P w) 6 "read_list" (spReadList K A) := by
  have sc := sc_read_list
  refine D.cx sc (fun vs H Q E h => ?_) (fun f cdv Ar outer s H vs Q E hr h => ?_)
  · obtain ⟨a, bs, S, rfl, _⟩ := h
    rfl
  · obtain ⟨a, bs, S, rfl, ha, d, out⟩ := h
    have hx : Passes (L2.CX P w) (cxOf (L2.CX P w) P w K mg base ["text", "reader", "measures", "members"] "read_list" (defScope s_read_list) f cdv Ar outer s H E) E := passes_call (takes_of rfl rfl rfl rfl) (fun _ _ _ _ h => h)
    refine ⟨_, (pss_cons (ps_set (i := 1) sc.nd rfl (Or.inl rfl) (pe_ma MReader hr (pa_cons (pe_cx c_tokens_of hr hx (pa_cons (pv 0) pa_nil)) pa_nil)))
      (pss_cons (ps_set (i := 2) sc.nd rfl (Or.inl rfl) (pe_cx c_read_measures hr hx (pa_cons (pv 1) pa_nil)))
      (pss_cons (ps_set (i := 3) sc.nd rfl (Or.inl rfl) (pe_cx c_read_members hr hx (pa_cons (pv 1) (pa_cons (pe_callB call_len_seq (by rfl) T.len PySem.boot_len (pa_cons (pv 2) pa_nil)) pa_nil))))
      (pss_one (ps_ret (pe_ma MListing hr (pa_cons (pv 2) (pa_cons (pv 3) pa_nil)))))))), ?_⟩
    rw [read_is] at out
    -- reader = Reader(tokens_of(text))
    refine ⟨_, rfl, a, bs, S, rfl, ha, d, ?_⟩
    cases ht : tokens bs with
    | error fl =>
      rw [ht] at out
      exact out
    | ok l =>
      rw [ht, ok_bind] at out
      obtain ⟨hE, hNm⟩ := tokens_ok ht
      intro H1 Tl s1 nT hT r dx nr nd ne
      refine ⟨r, dx, Tl, rfl, upd_same, rfl, ?_⟩
      have sI : Same H1 (newI H1 r dx A.rdr (rdF Tl 0)) := newI_same nr nd
      have nr0 : H r = none := s1.free nr
      have d1 : Dom S H1 := d.mono s1
      have sH2 : Same H (newI H1 r dx A.rdr (rdF Tl 0)) := Same.trans s1 sI
      have hR : RdAt A (fun q => S q ∨ q = r) (newI H1 r dx A.rdr (rdF Tl 0)) r l := by
        refine ⟨.inr rfl, dx, Tl, 0, l, newI_at, hT.mono fun q o e => ?_, rfl⟩
        have n := off_no e
        rw [off_of n] at e
        rw [off_of fun z => z.elim n (ne_of_none e nr)]
        exact sI _ _ e
      have dR : Dom (fun q => S q ∨ q = r) (newI H1 r dx A.rdr (rdF Tl 0)) := fun q hq e => by
        rcases hq with hq | hq
        · exact (d1.mono sI) q hq e
        · rw [hq, newI_at] at e
          cases e
      -- measures = read_measures(reader)
      refine ⟨_, rfl, r, (fun q => S q ∨ q = r), l, rfl, dR, hR, hE, ?_⟩
      cases hm : readMs l with
      | error fl =>
        rw [hm] at out
        exact fR_new sH2 nr0 out
      | ok x =>
        rw [hm, ok_bind] at out
        obtain ⟨m1, m2, m3, m4⟩ := readMs_ok hm hNm
        intro H3 m s3 nm hR3 hE3 hM3
        have dR3 : Dom (fun q => S q ∨ q = r) H3 := s3.dom dR hR3.there
        obtain ⟨as, hm3, hA3⟩ := id hM3
        -- members = read_members(reader, len(measures))
        refine ⟨_, rfl, _, rfl, m, _, rfl, .inl (SqL.of (off_same _ _ hm3)), ?_⟩
        rw [List.length_map, hA3.1]
        refine ⟨r, (fun q => S q ∨ q = r), x.2, x.1.length, rfl, dR3, hR3, hE3, m2, m3, ?_⟩
        cases hi : takeItems x.1.length (x.2.length + 1) [] x.2 with
        | error fl =>
          rw [hi] at out
          exact (fR_new sH2 nr0 out).mono s3
        | ok is =>
          rw [hi] at out
          intro H4 i s4 ni hI4
          -- return Listing(measures, members)
          refine ⟨_, rfl, _, rfl, fun z dz nz ndz nez => ?_⟩
          refine ⟨z, dz, _, _, rfl, upd_same, rfl, ?_⟩
          have sJ : Same H4 (newI H4 z dz A.lst [("measures", .ref m), ("members", .ref i)]) := newI_same nz ndz
          have sH4 : Same H H4 := SameR.new sH2 nr0 (s3.trans s4)
          refine out (newI H4 z dz A.lst [("measures", .ref m), ("members", .ref i)]) z (Same.trans sH4 sJ) (sH4.free nz) ⟨dz, m, i, ?_, ?_, ?_⟩
          · rw [off_new (d.mono sH4) nz]
            exact newI_at
          · have : MsAt A (off (fun q => S q ∨ q = r) H4) m x.1 := hM3.mono (s4.off (.inr rfl))
            exact (this.mono (off_mono fun q z => .inl z)).mono (Same.off sJ)
          · exact (hI4.mono (off_mono fun q z => .inl z)).mono (Same.off sJ)
end
end Ub
/-! Plain mathematics: who beats whom, gains, against the specification. -/
namespace Ub
open Vaskya (Measure Item Sheet goodOf)
open L2 (maxD)
def gd (m : Measure) (x : Int) : Int := if m.up = true then x else -x
theorem goodOf_cons (m : Measure) (ms : List Measure) (x : Int) (xs : List Int) : goodOf (m :: ms) (x :: xs) = gd m x :: goodOf ms xs := rfl
theorem bet_gd (m : Measure) (x y : Int) : betZ m.up x y = decide (gd m y < gd m x) := by
  unfold betZ leadZ gd
  cases m.up <;> simp <;> omega
theorem lead_gd (m : Measure) (x y : Int) : leadZ m.up x y = gd m x - gd m y := by
  unfold leadZ gd
  cases m.up <;> simp <;> omega
theorem rowB_split : ∀ (ms : List Measure) (xs ys : List Int), xs.length = ms.length → ys.length = ms.length →
    Vaskya.atLeast (goodOf ms xs) (goodOf ms ys) = (tris ms xs ys).all (fun t => !worseT t) ∧ ((tris ms xs ys).all (fun t => !worseT t) = true → (goodOf ms xs != goodOf ms ys) = (tris ms xs ys).any betT)
  | [], [], [], _, _ => ⟨rfl, fun _ => rfl⟩
  | [], _ :: _, _, h, _ => by cases h
  | [], [], _ :: _, _, h => by cases h
  | _ :: _, [], _, h, _ => by cases h
  | _ :: _, _ :: _, [], _, h => by cases h
  | m :: ms, x :: xs, y :: ys, h1, h2 => by
    obtain ⟨i1, i2⟩ := rowB_split ms xs ys (by simpa using h1) (by simpa using h2)
    have e1 : (!worseT (m, x, y)) = decide (gd m y ≤ gd m x) := by
      show (!betZ m.up y x) = _
      rw [bet_gd, Bool.eq_iff_iff, Bool.not_eq_true', decide_eq_false_iff_not, decide_eq_true_iff]
      omega
    have e2 : betT (m, x, y) = decide (gd m y < gd m x) := bet_gd m x y
    refine ⟨?_, fun h => ?_⟩
    · show (decide (gd m y ≤ gd m x) && Vaskya.atLeast (goodOf ms xs) (goodOf ms ys)) = ((!worseT (m, x, y)) && (tris ms xs ys).all (fun t => !worseT t))
      rw [i1, e1]
    · have h' : ((!worseT (m, x, y)) && (tris ms xs ys).all (fun t => !worseT t)) = true := h
      rw [Bool.and_eq_true, e1] at h'
      have h3 := of_decide_eq_true h'.1
      show ((gd m x :: goodOf ms xs) != (gd m y :: goodOf ms ys)) = (betT (m, x, y) || (tris ms xs ys).any betT)
      rw [← i2 h'.2, e2, Bool.eq_iff_iff, bne_iff_ne, Bool.or_eq_true, decide_eq_true_iff, bne_iff_ne]
      constructor
      · intro hne
        by_cases hx : gd m y < gd m x
        · exact .inl hx
        · refine .inr fun e => hne ?_
          have : gd m x = gd m y := by omega
          rw [this, e]
      · rintro (hx | hx) e
        · have := (List.cons.inj e).1
          omega
        · exact hx (List.cons.inj e).2
theorem rowB_spec {ms : List Measure} {xs ys : List Int} (h1 : xs.length = ms.length) (h2 : ys.length = ms.length) : rowB ms xs ys = Vaskya.beats (goodOf ms xs) (goodOf ms ys) := by
  obtain ⟨i1, i2⟩ := rowB_split ms xs ys h1 h2
  unfold rowB Vaskya.beats
  rw [i1]
  cases h : (tris ms xs ys).all (fun t => !worseT t) with
  | false => rfl
  | true => rw [i2 h]
theorem goodOf_len {ms : List Measure} {xs : List Int} (h : xs.length = ms.length) : (goodOf ms xs).length = ms.length := by
  unfold goodOf
  rw [List.length_map, List.length_zip, h, Nat.min_self]
theorem vals_len {s : Sheet} (g : Good s) {i : Nat} (h : i < s.items.length) : (valsOf s i).length = s.ms.length := by
  rw [valsOf_at (List.getElem?_eq_getElem h)]
  exact g.wid _ (List.getElem_mem h)
theorem rows_getD {s : Sheet} {i : Nat} (h : i < s.items.length) : (Vaskya.rows s).getD i [] = goodOf s.ms (valsOf s i) := by
  rw [valsOf_at (List.getElem?_eq_getElem h)]
  unfold Vaskya.rows
  rw [List.getD_eq_getElem?_getD, List.getElem?_map, List.getElem?_eq_getElem h]
  rfl
theorem rows_len (s : Sheet) : (Vaskya.rows s).length = s.items.length := by
  unfold Vaskya.rows
  rw [List.length_map]
theorem beat_spec {s : Sheet} (g : Good s) {i j : Nat} (hi : i < s.items.length) (hj : j < s.items.length) : beatN s i j = Vaskya.beats ((Vaskya.rows s).getD i []) ((Vaskya.rows s).getD j []) := by
  rw [rows_getD hi, rows_getD hj]
  exact rowB_spec (vals_len g hi) (vals_len g hj)
theorem ranked {s : Sheet} (g : Good s) : Ranked (beatN s) s.items.length := by
  refine ⟨fun i => (goodOf s.ms (valsOf s i)).sum, fun i j hi hj h => ?_⟩
  rw [beat_spec g hi hj, rows_getD hi, rows_getD hj] at h
  refine beats_sum ?_ h
  rw [goodOf_len (vals_len g hi), goodOf_len (vals_len g hj)]
theorem unb_is {s : Sheet} (g : Good s) {is : List Nat} (h : ∀ i ∈ is, i < s.items.length) : unbG (beatN s) is = Vaskya.unbeatenIn (Vaskya.rows s) is := by
  rw [unb_spec]
  exact unbG_congr fun i hi j hj => beat_spec g (h i hi) (h j hj)
theorem layers_is {s : Sheet} (g : Good s) : layersN s = Vaskya.layers (Vaskya.rows s) := by
  unfold layersN Vaskya.layers
  rw [lay_spec, rows_len]
  exact layG_congr _ _ fun i hi j hj => beat_spec g (mem_range hi) (mem_range hj)
theorem beaters_is {s : Sheet} (g : Good s) {i : Nat} (hi : i < s.items.length) : beatersN s i = Vaskya.beaters (Vaskya.rows s) i := by
  unfold beatersN Vaskya.beaters
  rw [rows_len]
  exact List.filter_congr fun j hj => beat_spec g (mem_range hj) hi
theorem beaten_is {s : Sheet} (g : Good s) {i : Nat} (hi : i < s.items.length) : beatenN s i = Vaskya.beaten (Vaskya.rows s) i := by
  unfold beatenN Vaskya.beaten
  rw [rows_len]
  exact List.filter_congr fun j hj => beat_spec g hi (mem_range hj)
theorem reasons_is {s : Sheet} (g : Good s) {i : Nat} (hi : i < s.items.length) : reasonsN s i = Vaskya.reasons (Vaskya.rows s) i := by
  unfold reasonsN Vaskya.reasons
  rw [← beaters_is g hi]
  exact unb_is g fun j hj => mem_range (List.mem_filter.mp hj).1
theorem layer_is {s : Sheet} (g : Good s) (i : Nat) : layerN s i = Vaskya.layerOf (Vaskya.rows s) i := by
  unfold layerN Vaskya.layerOf
  rw [layers_is g]
/-! ### gains -/
def mx (x y : Int) : Int := if x < y then y else x
theorem mx_ge (x y : Int) : x ≤ mx x y := by unfold mx; split <;> omega
theorem mx_zero {x : Int} (h : 0 ≤ x) : mx x 0 = x := by unfold mx; split <;> omega
theorem maxOf_is (y : Int) (ys : List Int) : PySem.W.maxOf y ys = ys.foldl mx y := by
  unfold PySem.W.maxOf
  congr 1
  funext a b
  unfold mx
  show (if decide (a < b) = true then b else a) = _
  by_cases h : a < b <;> simp [h]
theorem maxD_is {l : List Int} (h : ∀ x ∈ l, 0 ≤ x) : maxD 0 l = l.foldl mx 0 := by
  cases l with
  | nil => rfl
  | cons y ys =>
    show PySem.W.maxOf y ys = ys.foldl mx (mx 0 y)
    rw [maxOf_is]
    have hy := h y List.mem_cons_self
    congr 1
    unfold mx
    split <;> omega
theorem fold_filter (p : Nat → Bool) (f : Nat → Int) : ∀ (l : List Nat) (a : Int), 0 ≤ a → (∀ i ∈ l, p i = true → 0 ≤ f i) → ((l.filter p).map f).foldl mx a = (l.map fun i => if p i = true then f i else 0).foldl mx a
  | [], a, _, _ => rfl
  | i :: r, a, ha, h => by
    rw [List.map_cons, List.foldl_cons, List.filter_cons]
    cases hp : p i with
    | true =>
      rw [if_pos rfl, if_pos rfl, List.map_cons, List.foldl_cons]
      exact fold_filter p f r _ (Int.le_trans ha (mx_ge a _)) fun j hj => h j (List.mem_cons_of_mem _ hj)
    | false =>
      rw [if_neg Bool.false_ne_true, if_neg Bool.false_ne_true, mx_zero ha]
      exact fold_filter p f r a ha fun j hj => h j (List.mem_cons_of_mem _ hj)
theorem map_getD {α β : Type} (f : α → β) (d : α) : ∀ l : List α, l.map f = (List.range l.length).map fun i => f (l.getD i d)
  | [] => rfl
  | x :: r => by
    rw [List.length_cons, List.range_succ_eq_map, List.map_cons, List.map_cons, List.map_map, map_getD f d r]
    rfl
/-- entry by entry: the first is no less than the second -/
theorem atLeast_get : ∀ {a b : List Int}, Vaskya.atLeast a b = true → ∀ {k : Nat} {x y : Int}, a[k]? = some x → b[k]? = some y → y ≤ x
  | [], _, _, k, x, y, h1, _ => by simp at h1
  | _ :: _, [], _, k, x, y, _, h2 => by simp at h2
  | p :: a, q :: b, h, 0, x, y, h1, h2 => by
    have h' : (decide (q ≤ p) && Vaskya.atLeast a b) = true := h
    rw [Bool.and_eq_true] at h'
    simp at h1 h2
    have := of_decide_eq_true h'.1
    omega
  | p :: a, q :: b, h, k + 1, x, y, h1, h2 => by
    have h' : (decide (q ≤ p) && Vaskya.atLeast a b) = true := h
    rw [Bool.and_eq_true] at h'
    exact atLeast_get h'.2 (by simpa using h1) (by simpa using h2)
theorem erase_any {a b : List Int} (h : Vaskya.atLeast a b = true) (m : Nat) : ((a.zip b).eraseIdx m).any (fun x => decide (x.1 < x.2)) = false := by
  rw [List.any_eq_false]
  rintro ⟨x, y⟩ hxy
  have h1 := List.mem_of_mem_eraseIdx hxy
  obtain ⟨k, hk⟩ := List.mem_iff_getElem?.mp h1
  rw [List.getElem?_zip_eq_some] at hk
  have := atLeast_get h hk.1 hk.2
  rw [decide_eq_true_iff]
  show ¬ x < y
  have h3 : y ≤ x := this
  omega
theorem erase_all {a b : List Int} (hl : a.length = b.length) (m : Nat) : ((a.zip b).eraseIdx m).all (fun x => x.1 == x.2) = true ↔ ∀ k, k ≠ m → a[k]? = b[k]? := by
  rw [List.all_eq_true]
  constructor
  · intro h k hk
    by_cases hlt : k < a.length
    · have h1 : (a.zip b)[k]? = some (a[k], b[k]'(by omega)) := by
        rw [List.getElem?_zip_eq_some]
        exact ⟨List.getElem?_eq_getElem hlt, List.getElem?_eq_getElem (by omega)⟩
      have h2 : (a[k], b[k]'(by omega)) ∈ (a.zip b).eraseIdx m := List.mem_eraseIdx_iff_getElem?.mpr ⟨k, hk, h1⟩
      have h3 := h _ h2
      have h4 : a[k] = b[k]'(by omega) := by simpa using h3
      rw [List.getElem?_eq_getElem hlt, List.getElem?_eq_getElem (show k < b.length by omega), h4]
    · rw [List.getElem?_eq_none (by omega), List.getElem?_eq_none (by omega)]
  · rintro h ⟨x, y⟩ hxy
    obtain ⟨k, hk, h1⟩ := List.mem_eraseIdx_iff_getElem?.mp hxy
    rw [List.getElem?_zip_eq_some] at h1
    have h2 := h k hk
    rw [h1.1, h1.2] at h2
    have h3 : x = y := Option.some.inj h2
    rw [h3]
    exact beq_self_eq_true y
theorem gd_inj {m : Measure} {x y : Int} (h : gd m x = gd m y) : x = y := by
  unfold gd at h
  split at h <;> omega
theorem good_get {ms : List Measure} {xs : List Int} {k : Nat} {m : Measure} {x : Int} (hm : ms[k]? = some m) (hx : xs[k]? = some x) : (goodOf ms xs)[k]? = some (gd m x) := by
  unfold goodOf
  rw [List.getElem?_map, (List.getElem?_zip_eq_some (l₁ := ms) (l₂ := xs) (z := (m, x))).mpr ⟨hm, hx⟩]
  rfl
theorem good_eq {ms : List Measure} {xs ys : List Int} (h1 : xs.length = ms.length) (h2 : ys.length = ms.length) (k : Nat) : (goodOf ms xs)[k]? = (goodOf ms ys)[k]? ↔ xs[k]? = ys[k]? := by
  by_cases hlt : k < ms.length
  · have hm := List.getElem?_eq_getElem hlt
    have hx : xs[k]? = some (xs[k]'(by omega)) := List.getElem?_eq_getElem (by omega)
    have hy : ys[k]? = some (ys[k]'(by omega)) := List.getElem?_eq_getElem (by omega)
    rw [good_get hm hx, good_get hm hy, hx, hy]
    exact ⟨fun e => by rw [gd_inj (Option.some.inj e)], fun e => by rw [Option.some.inj e]⟩
  · have e1 : (goodOf ms xs)[k]? = none := List.getElem?_eq_none (by rw [goodOf_len h1]; omega)
    have e2 : (goodOf ms ys)[k]? = none := List.getElem?_eq_none (by rw [goodOf_len h2]; omega)
    rw [e1, e2, List.getElem?_eq_none (show xs.length ≤ k by omega), List.getElem?_eq_none (show ys.length ≤ k by omega)]
theorem sameBut_iff {xs ys : List Int} (hl : xs.length = ys.length) (m : Nat) : sameBut xs ys m = true ↔ ∀ k, k ≠ m → xs[k]? = ys[k]? := by
  unfold sameBut
  rw [List.all_eq_true]
  constructor
  · intro h k hk
    by_cases hlt : k < xs.length
    · have h1 := h k (List.mem_range.mpr hlt)
      unfold sameAt at h1
      rw [decide_eq_false hk, Bool.false_or, decide_eq_true_iff, List.getD_eq_getElem?_getD, List.getD_eq_getElem?_getD, List.getElem?_eq_getElem hlt, List.getElem?_eq_getElem (show k < ys.length by omega)] at h1
      rw [List.getElem?_eq_getElem hlt, List.getElem?_eq_getElem (show k < ys.length by omega)]
      exact congrArg some h1
    · rw [List.getElem?_eq_none (by omega), List.getElem?_eq_none (by omega)]
  · intro h k hk
    unfold sameAt
    by_cases hm : k = m
    · rw [decide_eq_true hm, Bool.true_or]
    · rw [List.getD_eq_getElem?_getD, List.getD_eq_getElem?_getD, h k hm, decide_eq_true (rfl), Bool.or_true]
theorem gain_lacks {s : Sheet} (g : Good s) {i b m : Nat} (hi : i < s.items.length) (hb : b < s.items.length) (hm : m < s.ms.length) (hbt : beatN s b i = true) :
    gainA s i b m = Vaskya.lacks ((Vaskya.rows s).getD b []) ((Vaskya.rows s).getD i []) m ∧ 0 ≤ gainA s i b m := by
  rw [beat_spec g hb hi] at hbt
  rw [rows_getD hi, rows_getD hb] at hbt ⊢
  have li := vals_len g hi
  have lb := vals_len g hb
  unfold Vaskya.beats at hbt
  rw [Bool.and_eq_true] at hbt
  have hm0 : s.ms[m]? = some s.ms[m] := List.getElem?_eq_getElem hm
  have hxi : (valsOf s i)[m]? = some ((valsOf s i)[m]'(by omega)) := List.getElem?_eq_getElem (by omega)
  have hxb : (valsOf s b)[m]? = some ((valsOf s b)[m]'(by omega)) := List.getElem?_eq_getElem (by omega)
  have gi := good_get hm0 hxi
  have gb := good_get hm0 hxb
  have hge := atLeast_get hbt.1 gb gi
  have hsame : (((goodOf s.ms (valsOf s b)).zip (goodOf s.ms (valsOf s i))).eraseIdx m).all (fun x => x.1 == x.2) = sameBut (valsOf s i) (valsOf s b) m := by
    rw [Bool.eq_iff_iff, erase_all (by rw [goodOf_len li, goodOf_len lb]), sameBut_iff (by omega)]
    exact ⟨fun h k hk => ((good_eq lb li k).mp (h k hk)).symm, fun h k hk => (good_eq lb li k).mpr (h k hk).symm⟩
  unfold gainA Vaskya.lacks
  simp only [erase_any hbt.1 m, hsame, Bool.false_eq_true, if_false]
  rw [getD_of gb, getD_of gi, getD_of hxi, getD_of hxb, hm0]
  show (if sameBut (valsOf s i) (valsOf s b) m = true then leadZ s.ms[m].up _ _ else leadZ s.ms[m].up _ _ + 1) = _ ∧ 0 ≤ (if sameBut (valsOf s i) (valsOf s b) m = true then leadZ s.ms[m].up _ _ else leadZ s.ms[m].up _ _ + 1)
  rw [lead_gd]
  refine ⟨rfl, ?_⟩
  split <;> omega
theorem gain_is {s : Sheet} (g : Good s) {i m : Nat} (hi : i < s.items.length) (hm : m < s.ms.length) : gainN s i m = Vaskya.gainTo (Vaskya.rows s) i m := by
  unfold gainN Vaskya.gainTo
  have hpos : ∀ b ∈ List.range s.items.length, beatN s b i = true → 0 ≤ gainA s i b m := fun b hb h => (gain_lacks g hi (mem_range hb) hm h).2
  rw [maxD_is (fun x hx => by
    obtain ⟨b, hb, rfl⟩ := List.mem_map.mp hx
    obtain ⟨h1, h2⟩ := List.mem_filter.mp hb
    exact hpos b h1 h2)]
  unfold beatersN
  rw [fold_filter _ _ _ 0 (Int.le_refl _) hpos]
  rw [map_getD (fun a => if Vaskya.beats a ((Vaskya.rows s).getD i []) = true then Vaskya.lacks a ((Vaskya.rows s).getD i []) m else 0) [] (Vaskya.rows s), rows_len]
  show _ = List.foldl mx 0 _
  congr 1
  refine List.map_congr_left fun b hb => ?_
  have hb' := mem_range hb
  rw [← beat_spec g hb' hi]
  by_cases h : beatN s b i = true
  · rw [if_pos h, if_pos h, (gain_lacks g hi hb' hm h).1]
  · rw [if_neg h, if_neg h]
end Ub
namespace Ub
open PySem PySem.Spec PyProof.Rows L2
open VaskyBase (Bytes word)
/-! ### answers as whole numbers -/
def natsI (ns : List Nat) : List Int := ns.map fun n : Nat => (n : Int)
def bytesI (bs : Bytes) : List Int := bs.map fun c => (c.toNat : Int)
def cnt (l : List Int) : List Int := (l.length : Int) :: l
theorem nats_i (ns : List Nat) : ns.map nV = (natsI ns).map V.int := nats_ints ns
theorem bytes_i (bs : Bytes) : bs.map bV = (bytesI bs).map V.int := bytes_ints bs
section
variable {P : Program} {w : World} {K : PySem.W.Frag} {mg : Str → Option Value} {base : Heap} {A : Ad}
/-! ### counted -/
def spCounted : Sp := fun vs H Q _ => ∃ (p : Addr) (l : List Int), vs = [.ref p] ∧ H p = some (.lst (l.map V.int)) ∧ l.length ≤ 16000000 ∧ ∀ H' D, Same H H' → H D = none → H' D = some (.lst ((cnt l).map V.int)) → Q (.ref D) H'
abbrev s_counted : Stmt := top 73
theorem sc_counted : FnScope ["numbers"] ["numbers"] (defScope s_counted) := ⟨rfl, rfl, rfl, by decide +kernel, rfl, by decide +kernel, by decide +kernel⟩
theorem c_counted (T : Txt K mg A) (D : Dn K mg "counted" s_counted ["numbers"]) : Ca P w K mg base CX0 1 "counted" spCounted := by
  have sc := sc_counted
  refine D.ca sc (fun vs H Q E h => ?_) (fun f cdv Ar outer s H vs Q E hr h => ?_)
  · obtain ⟨p, l, rfl, _⟩ := h
    rfl
  · obtain ⟨p, l, rfl, hp, hl, q⟩ := h
    refine ⟨_, (pss_one (ps_ret (pe_op op_cat (pe_lst (pa_cons (pe_callB call_len_seq (by rfl) T.len PySem.boot_len (pa_cons (pv 0) pa_nil)) pa_nil)) (pv 0)))), ?_⟩
    refine ⟨_, rfl, p, _, rfl, .inl (SqL.of hp), (by show 1 ≤ sizeLine; decide), fun a na => ?_⟩
    have s1 : Same H (upd H a (.lst [.int ((l.map V.int).length : Int)])) := same_new na
    refine ⟨_, rfl, a, p, _, _, rfl, rfl, upd_same, s1 _ _ hp, ?_, fun D nD => ?_⟩
    · rw [List.length_map, List.length_singleton, sizeLine_eq]
      omega
    · refine q _ D (same_put s1 (s1.free nD)) (s1.free nD) ?_
      rw [upd_same, List.length_map]
      rfl
/-! ### compared -/
def okI (n : Nat) (i : Int) : Bool := decide (0 ≤ i ∧ i < (n : Int))
def cmpP (s : Vaskya.Sheet) (i j : Int) : List Int :=
  if okI s.items.length i = true ∧ okI s.items.length j = true then
    (if beatN s i.toNat j.toNat = true then [1] else if beatN s j.toNat i.toNat = true then [2] else if decide (valsOf s i.toNat = valsOf s j.toNat) = true then [3] else [0])
  else [-2]
def spAns (A : Ad) (n : Nat) (f : Vaskya.Sheet → List Int → List Int) : Sp := fun vs H Q _ => ∃ (l : Addr) (s : Vaskya.Sheet) (xs : List Int), vs = .ref l :: xs.map V.int ∧ xs.length = n ∧ SheetAt A H l s ∧ Good s ∧
  ∀ H' D, Same H H' → H D = none → H' D = some (.lst ((f s xs).map V.int)) → Q (.ref D) H'
theorem okI_nat {n : Nat} {i : Int} (h : okI n i = true) : i.toNat < n ∧ V.int i = nV i.toNat := by
  have h' := of_decide_eq_true h
  refine ⟨by omega, ?_⟩
  unfold nV
  congr 1
  omega
/-- a list of one number made -/
theorem one_made {H : Hp} {Q : VK} {l : List Int} {n : Int} (q : ∀ H' D, Same H H' → H D = none → H' D = some (.lst (l.map V.int)) → Q (.ref D) H') (e : l = [n]) {H1 : Hp} (s1 : Same H H1) {D : Addr} (nD : H1 D = none) : Q (.ref D) (upd H1 D (.lst [.int n])) := by
  subst e
  exact q _ D (same_put s1 (s1.free nD)) (s1.free nD) upd_same
def cmpA (s : Vaskya.Sheet) : List Int → List Int
  | [i, j] => cmpP s i j
  | _ => []
abbrev s_compared : Stmt := top 74
theorem sc_compared : FnScope ["listing", "number", "other"] ["listing", "number", "other"] (defScope s_compared) := ⟨rfl, rfl, rfl, by decide +kernel, rfl, by decide +kernel, by decide +kernel⟩
theorem c_compared (T : Txt K mg A) (c_has_item : Me P w K mg base CX0 1 A.lst "has_item" (spHas A fun s => s.items.length)) (c_beats : Ca P w K mg base CX0 4 "beats" (spBeats A)) (c_are_same : Ca P w K mg base CX0 1 "are_same" (spAreSame A))
    (D : Dn K mg "compared" s_compared ["listing", "number", "other"]) : Ca P w K mg base CX0 5 "compared" (spAns A 2 cmpA) := by
  have sc := sc_compared
  refine D.ca sc (fun vs H Q E h => ?_) (fun f cdv Ar outer s H vs Q E hr h => ?_)
  · obtain ⟨l, s, xs, rfl, hx, _⟩ := h
    rw [List.length_cons, List.length_map, hx]
    rfl
  · obtain ⟨l, sh, xs, rfl, hx2, hS, g, q⟩ := h
    obtain ⟨i, j, rfl⟩ : ∃ i j, xs = [i, j] := by
      match xs, hx2 with
      | [i, j], _ => exact ⟨i, j, rfl⟩
    refine ⟨_, (pss_cons (ps_if (pt_not (PW.pt (pw_and (pt_val (pe_mx c_has_item T.cL hr pass0 (pv 0) (pa_cons (pv 1) pa_nil))) (pw_and1 (pt_val (pe_mx c_has_item T.cL hr pass0 (pv 0) (pa_cons (pv 2) pa_nil))))))) (pss_one (ps_ret (pe_lst (pa_cons (pe_un un_neg pe_int) pa_nil)))) pss_nil)
      (pss_cons (ps_if (pt_val (pe_ca c_beats hr (pa_cons (pv 0) (pa_cons (pv 1) (pa_cons (pv 2) pa_nil))))) (pss_one (ps_ret (pe_lst (pa_cons pe_int pa_nil)))) pss_nil)
      (pss_cons (ps_if (pt_val (pe_ca c_beats hr (pa_cons (pv 0) (pa_cons (pv 2) (pa_cons (pv 1) pa_nil))))) (pss_one (ps_ret (pe_lst (pa_cons pe_int pa_nil)))) pss_nil)
      (pss_cons (ps_if (pt_val (pe_ca c_are_same hr (pa_cons (pv 0) (pa_cons (pv 1) (pa_cons (pv 2) pa_nil))))) (pss_one (ps_ret (pe_lst (pa_cons pe_int pa_nil)))) pss_nil)
      (pss_one (ps_ret (pe_lst (pa_cons pe_int pa_nil)))))))), ?_⟩
    obtain ⟨dx, m, it, hl, _⟩ := id hS
    have size1 : (1 : Nat) ≤ sizeLine := by decide
    refine ⟨_, rfl, l, dx, _, rfl, hl, lu_nometh, _, rfl, l, sh, i, rfl, hS, _, rfl, ?_⟩
    have no : ¬ (okI sh.items.length i = true ∧ okI sh.items.length j = true) → cmpA sh [i, j] = [-2] := fun h => by
      show cmpP sh i j = _
      unfold cmpP
      rw [if_neg h]
    cases hi : okI sh.items.length i with
    | false =>
      rw [show decide (0 ≤ i ∧ i < (sh.items.length : Int)) = false from hi]
      refine iteF (iteT ⟨_, rfl, size1, fun D nD => ?_⟩)
      exact one_made q (no fun z => by rw [hi] at z; cases z.1) (Same.refl H) nD
    | true =>
      rw [show decide (0 ≤ i ∧ i < (sh.items.length : Int)) = true from hi]
      refine iteT ⟨_, rfl, l, dx, _, rfl, hl, lu_nometh, _, rfl, l, sh, j, rfl, hS, _, rfl, ?_⟩
      cases hj : okI sh.items.length j with
      | false =>
        rw [show decide (0 ≤ j ∧ j < (sh.items.length : Int)) = false from hj]
        refine iteT ⟨_, rfl, size1, fun D nD => ?_⟩
        exact one_made q (no fun z => by rw [hj] at z; cases z.2) (Same.refl H) nD
      | true =>
        rw [show decide (0 ≤ j ∧ j < (sh.items.length : Int)) = true from hj]
        have ecmp : cmpA sh [i, j] = (if beatN sh i.toNat j.toNat = true then [1] else if beatN sh j.toNat i.toNat = true then [2] else if decide (valsOf sh i.toNat = valsOf sh j.toNat) = true then [3] else [0]) := by
          show cmpP sh i j = _
          unfold cmpP
          rw [if_pos ⟨hi, hj⟩]
        obtain ⟨ni, ei⟩ := okI_nat hi
        obtain ⟨nj, ej⟩ := okI_nat hj
        refine iteF ⟨_, rfl, _, rfl, _, rfl, l, sh, i.toNat, j.toNat, ?_, hS, g, ni, nj, fun H1 s1 => ⟨_, rfl, ?_⟩⟩
        · show [V.ref l, V.int i, V.int j] = _
          rw [ei, ej]
        cases hb1 : beatN sh i.toNat j.toNat with
        | true =>
          rw [if_pos hb1] at ecmp
          exact iteT ⟨size1, fun D nD => one_made q ecmp s1 nD⟩
        | false =>
          rw [if_neg (by rw [hb1]; exact Bool.false_ne_true)] at ecmp
          refine iteF ⟨_, rfl, _, rfl, _, rfl, l, sh, j.toNat, i.toNat, ?_, hS.mono s1, g, nj, ni, fun H2 s2 => ⟨_, rfl, ?_⟩⟩
          · show [V.ref l, V.int j, V.int i] = _
            rw [ei, ej]
          have s12 := Same.trans s1 s2
          cases hb2 : beatN sh j.toNat i.toNat with
          | true =>
            rw [if_pos hb2] at ecmp
            exact iteT ⟨size1, fun D nD => one_made q ecmp s12 nD⟩
          | false =>
            rw [if_neg (by rw [hb2]; exact Bool.false_ne_true)] at ecmp
            refine iteF ⟨_, rfl, _, rfl, _, rfl, l, sh, i.toNat, j.toNat, ?_, hS.mono s12, ni, nj, _, rfl, ?_⟩
            · show [V.ref l, V.int i, V.int j] = _
              rw [ei, ej]
            cases hsm : decide (valsOf sh i.toNat = valsOf sh j.toNat) with
            | true =>
              rw [if_pos hsm] at ecmp
              exact iteT ⟨size1, fun D nD => one_made q ecmp s12 nD⟩
            | false =>
              rw [if_neg (by rw [hsm]; exact Bool.false_ne_true)] at ecmp
              exact iteF ⟨size1, fun D nD => one_made q ecmp s12 nD⟩
/-! ### layers_told -/
def layP (s : Vaskya.Sheet) : List Int := ((layersN s).length : Int) :: ((layersN s).map fun u => cnt (natsI u)).flatten
theorem lay_in {bt : Nat → Nat → Bool} : ∀ (n : Nat) (is : List Nat), ∀ u ∈ layG bt n is, u.length ≤ is.length
  | 0, _, u, h => nomatch h
  | n + 1, is, u, h => by
    have h' : u ∈ (if is.isEmpty = true then [] else unbG bt is :: layG bt n (is.filter fun i => !(unbG bt is).contains i)) := h
    split at h'
    · cases h'
    · rcases List.mem_cons.mp h' with rfl | h'
      · exact unbG_len _ _
      · exact Nat.le_trans (lay_in n _ u h') (List.length_filter_le _ _)
theorem lays_small {s : Vaskya.Sheet} (g : Good s) : ∀ u ∈ layersN s, u.length ≤ 16 := fun u h => by
  have := lay_in _ _ u h
  rw [List.length_range] at this
  exact Nat.le_trans this g.is16
theorem flat_lenI : ∀ (l : List (List Int)) {k : Nat}, (∀ b ∈ l, b.length ≤ k) → l.flatten.length ≤ k * l.length
  | [], _, _ => Nat.zero_le _
  | b :: r, k, h => by
    have ih := flat_lenI r fun c hc => h c (List.mem_cons_of_mem _ hc)
    have h1 := h b List.mem_cons_self
    rw [List.flatten_cons, List.length_append, List.length_cons, Nat.mul_succ]
    omega
theorem lay_part {s : Vaskya.Sheet} (g : Good s) (k : Nat) : (((layersN s).take k).map fun u => cnt (natsI u)).flatten.length ≤ 17 * 16 := by
  refine Nat.le_trans (flat_lenI _ (k := 17) fun b hb => ?_) (Nat.mul_le_mul_left 17 ?_)
  · obtain ⟨u, hu, rfl⟩ := List.mem_map.mp hb
    have := lays_small g u (List.mem_of_mem_take hu)
    show (natsI u).length + 1 ≤ 17
    unfold natsI
    rw [List.length_map]
    omega
  · rw [List.length_map]
    exact Nat.le_trans (List.length_take_le' _ _) (Nat.le_trans (layG_len _ _) g.is16)
abbrev s_layers_told : Stmt := top 75
theorem sc_layers_told : FnScope ["listing", "layers", "told", "layer"] ["listing"] (defScope s_layers_told) := ⟨rfl, rfl, rfl, by decide +kernel, rfl, by decide +kernel, by decide +kernel⟩
theorem c_layers_told (T : Txt K mg A) (c_layers_of : Ca P w K mg base CX0 7 "layers_of" (spLayers A)) (c_counted : Ca P w K mg base CX0 1 "counted" spCounted) (D : Dn K mg "layers_told" s_layers_told ["listing"]) : Ca P w K mg base CX0 8 "layers_told" (spAns A 0 fun s _ => layP s) := by
  have sc := sc_layers_told
  refine D.ca sc (fun vs H Q E h => ?_) (fun f cdv Ar outer s H vs Q E hr h => ?_)
  · obtain ⟨l, s, xs, rfl, hx, _⟩ := h
    rw [List.length_cons, List.length_map, hx]
    rfl
  · obtain ⟨l, sh, xs, rfl, hx0, hS, g, q⟩ := h
    obtain rfl : xs = [] := List.length_eq_zero_iff.mp hx0
    refine ⟨_, (pss_cons (ps_set (i := 1) sc.nd rfl (Or.inl rfl) (pe_ca c_layers_of hr (pa_cons (pv 0) pa_nil)))
      (pss_cons (ps_set (i := 2) sc.nd rfl (Or.inl rfl) (pe_lst (pa_cons (pe_callB call_len_seq (by rfl) T.len PySem.boot_len (pa_cons (pv 1) pa_nil)) pa_nil)))
      (pss_cons (ps_for PassesOwn.never rfl (pi_list (pv 1)) (pg_name (i := 3) sc.nd rfl (Or.inl rfl)) (pss_one (ps_expr (pe_bm PySem.F.plainAttrs_list PySem.F.slot_list_extend PySem.F.type_list_extend mt_extend (pv 2) (pa_cons (pe_ca c_counted hr (pa_cons (pv 3) pa_nil)) pa_nil)))))
      (pss_one (ps_ret (pv 2)))))), ?_⟩
    refine ⟨_, rfl, l, sh, rfl, hS, g, ranked g, fun H1 p s1 np ⟨as, hp, hA⟩ => ?_⟩
    refine ⟨_, rfl, p, _, rfl, .inl (SqL.of hp), (by show 1 ≤ sizeLine; decide), fun t nt => ?_⟩
    rw [List.length_map, hA.1]
    have st : Same H1 (upd H1 t (.lst [.int ((layersN sh).length : Int)])) := same_new nt
    have nt0 : H t = none := s1.free nt
    refine ⟨_, rfl, p, rfl, ⟨_, SqL.of (st _ _ hp)⟩, for_list (K := K) (a := p) (xs := as.map V.ref) (fun k σ H' => ∃ v, σ = [some (.ref l), some (.ref p), some (.ref t), v] ∧ Same H1 H' ∧ H' t = some (.lst ((((layersN sh).length : Int) :: (((layersN sh).take k).map fun u => cnt (natsI u)).flatten).map V.int)))
      ⟨none, rfl, st, upd_same⟩ (fun k σ H' _ ⟨_, _, sm, _⟩ => SqL.of (sm _ _ hp)) ?_ ?_⟩
    · rintro k y σ H' hy ⟨v, rfl, sm, ht⟩
      obtain ⟨a, ha, rfl⟩ := map_get hy
      obtain ⟨u, hu, _, hau⟩ := hA.getA ha
      have hua := sm _ _ hau
      rw [nats_i] at hua
      refine ⟨_, rfl, .inl ⟨rfl, _, SqL.of ht⟩, _, rfl, a, natsI u, rfl, hua, ?_, fun H2 c s2 nc hc => ?_⟩
      · have := lays_small g u (List.mem_of_getElem? hu)
        unfold natsI
        rw [List.length_map]
        omega
      refine ⟨t, c, _, _, rfl, rfl, s2 _ _ ht, hc, ?_, _, rfl, same_put (Same.trans sm s2) nt, ?_⟩
      · have h1 := lay_part g k
        have h2 := lays_small g u (List.mem_of_getElem? hu)
        have h3 : (natsI u).length = u.length := by
          unfold natsI
          rw [List.length_map]
        rw [List.length_map, List.length_map, List.length_cons]
        refine big_ok ?_
        show _ + ((natsI u).length + 1) ≤ _
        omega
      · rw [upd_same, take_snoc hu, List.map_append, List.flatten_append]
        simp
    · rintro σ H' ⟨v, rfl, sm, ht⟩
      rw [List.length_map, hA.1, List.take_length] at ht
      exact ⟨_, rfl, q H' t (Same.trans s1 sm) nt0 ht⟩
/-! ### beaters_told, gain_told, item_told -/
def itemI (n : Vaskya.Sheet → Nat → List Int) (s : Vaskya.Sheet) : List Int → List Int
  | i :: _ => n s i.toNat
  | [] => []
def bersP (s : Vaskya.Sheet) (i : Nat) : List Int := cnt (natsI (beatersN s i)) ++ cnt (natsI (reasonsN s i))
theorem cnt_nat_len {ns : List Nat} (h : ns.length ≤ 16) : (cnt (natsI ns)).length ≤ 17 := by
  show (natsI ns).length + 1 ≤ 17
  unfold natsI
  rw [List.length_map]
  omega
theorem natsI_len {ns : List Nat} (h : ns.length ≤ 16) : (natsI ns).length ≤ 16000000 := by
  unfold natsI
  rw [List.length_map]
  omega
def spItm (A : Ad) (f : Vaskya.Sheet → Nat → List Int) : Sp := fun vs H Q _ => ∃ (l : Addr) (s : Vaskya.Sheet) (i : Nat), vs = [.ref l, nV i] ∧ SheetAt A H l s ∧ Good s ∧ i < s.items.length ∧
  ∀ H' D, Same H H' → H D = none → H' D = some (.lst ((f s i).map V.int)) → Q (.ref D) H'
abbrev s_beaters_told : Stmt := top 76
theorem sc_beaters_told : FnScope ["listing", "number"] ["listing", "number"] (defScope s_beaters_told) := ⟨rfl, rfl, rfl, by decide +kernel, rfl, by decide +kernel, by decide +kernel⟩
theorem c_beaters_told (T : Txt K mg A) (c_counted : Ca P w K mg base CX0 1 "counted" spCounted) (c_beaters_of : Ca P w K mg base CX0 5 "beaters_of" (spFil A beatersN)) (c_reasons_of : Ca P w K mg base CX0 7 "reasons_of" (spFil A reasonsN)) (D : Dn K mg "beaters_told" s_beaters_told ["listing", "number"]) : Ca P w K mg base CX0 8 "beaters_told" (spItm A bersP) := by
  have sc := sc_beaters_told
  refine D.ca sc (fun vs H Q E h => ?_) (fun f cdv Ar outer s H vs Q E hr h => ?_)
  · obtain ⟨l, s, i, rfl, _⟩ := h
    rfl
  · obtain ⟨l, sh, i, rfl, hS, g, hi, q⟩ := h
    refine ⟨_, (pss_one (ps_ret (pe_op op_cat (pe_ca c_counted hr (pa_cons (pe_ca c_beaters_of hr (pa_cons (pv 0) (pa_cons (pv 1) pa_nil))) pa_nil)) (pe_ca c_counted hr (pa_cons (pe_ca c_reasons_of hr (pa_cons (pv 0) (pa_cons (pv 1) pa_nil))) pa_nil))))), ?_⟩
    have h16 : (beatersN sh i).length ≤ 16 := fil_len _ g
    have r16 : (reasonsN sh i).length ≤ 16 := Nat.le_trans (unbG_len _ _) h16
    refine ⟨_, rfl, _, rfl, l, sh, i, rfl, hS, g, hi, fun H1 a s1 na ha => ?_⟩
    rw [nats_i] at ha
    refine ⟨a, _, rfl, ha, natsI_len h16, fun H2 b s2 nb hb => ?_⟩
    have s02 := Same.trans s1 s2
    refine ⟨_, rfl, _, rfl, l, sh, i, rfl, hS.mono s02, g, hi, fun H3 c s3 nc hc => ?_⟩
    rw [nats_i] at hc
    refine ⟨c, _, rfl, hc, natsI_len r16, fun H4 d s4 nd hd => ?_⟩
    have s04 := Same.trans s02 (Same.trans s3 s4)
    refine ⟨b, d, _, _, rfl, rfl, (Same.trans s3 s4) _ _ hb, hd, ?_, fun D nD => ?_⟩
    · have h1 := cnt_nat_len h16
      have h2 := cnt_nat_len r16
      rw [List.length_map, List.length_map]
      exact big_ok (by omega)
    · refine q _ D (same_put s04 (s04.free nD)) (s04.free nD) ?_
      rw [upd_same, ← List.map_append]
      rfl
def gainP (s : Vaskya.Sheet) (i : Nat) (m : Int) : List Int := if okI s.ms.length m = true then [gainN s i m.toNat] else [-3]
def spGain (A : Ad) : Sp := fun vs H Q _ => ∃ (l : Addr) (s : Vaskya.Sheet) (i : Nat) (m : Int), vs = [.ref l, nV i, .int m] ∧ SheetAt A H l s ∧ Good s ∧ i < s.items.length ∧
  ∀ H' D, Same H H' → H D = none → H' D = some (.lst ((gainP s i m).map V.int)) → Q (.ref D) H'
abbrev s_gain_told : Stmt := top 77
theorem sc_gain_told : FnScope ["listing", "number", "measure_number"] ["listing", "number", "measure_number"] (defScope s_gain_told) := ⟨rfl, rfl, rfl, by decide +kernel, rfl, by decide +kernel, by decide +kernel⟩
theorem c_gain_told (T : Txt K mg A) (c_has_measure : Me P w K mg base CX0 1 A.lst "has_measure" (spHas A fun s => s.ms.length)) (c_gain_of : Ca P w K mg base CX0 6 "gain_of" (spGainOf A)) (D : Dn K mg "gain_told" s_gain_told ["listing", "number", "measure_number"]) : Ca P w K mg base CX0 7 "gain_told" (spGain A) := by
  have sc := sc_gain_told
  refine D.ca sc (fun vs H Q E h => ?_) (fun f cdv Ar outer s H vs Q E hr h => ?_)
  · obtain ⟨l, s, i, m, rfl, _⟩ := h
    rfl
  · obtain ⟨l, sh, i, m, rfl, hS, g, hi, q⟩ := h
    refine ⟨_, (pss_cons (ps_if (pt_not (pt_val (pe_mx c_has_measure T.cL hr pass0 (pv 0) (pa_cons (pv 2) pa_nil)))) (pss_one (ps_ret (pe_lst (pa_cons (pe_un un_neg pe_int) pa_nil)))) pss_nil)
      (pss_one (ps_ret (pe_lst (pa_cons (pe_ca c_gain_of hr (pa_cons (pv 0) (pa_cons (pv 1) (pa_cons (pv 2) pa_nil)))) pa_nil))))), ?_⟩
    obtain ⟨dx, mm, it, hl, _⟩ := id hS
    have size1 : (1 : Nat) ≤ sizeLine := by decide
    refine ⟨_, rfl, l, dx, _, rfl, hl, lu_nometh, _, rfl, l, sh, m, rfl, hS, _, rfl, ?_⟩
    unfold gainP at q
    cases hm : okI sh.ms.length m with
    | false =>
      rw [show decide (0 ≤ m ∧ m < (sh.ms.length : Int)) = false from hm]
      rw [if_neg (by rw [hm]; exact Bool.false_ne_true)] at q
      exact iteT ⟨_, rfl, size1, fun D nD => one_made q rfl (Same.refl H) nD⟩
    | true =>
      rw [show decide (0 ≤ m ∧ m < (sh.ms.length : Int)) = true from hm]
      rw [if_pos hm] at q
      obtain ⟨nm, em⟩ := okI_nat hm
      refine iteF ⟨_, rfl, _, rfl, _, rfl, l, sh, i, m.toNat, ?_, hS, g, hi, nm, fun H1 s1 => ⟨size1, fun D nD => one_made q rfl s1 nD⟩⟩
      show [V.ref l, nV i, V.int m] = _
      rw [em]
def itemP (s : Vaskya.Sheet) (i : Nat) : List Int := (layerN s i : Int) :: (cnt (bytesI ((s.items[i]?.map (·.name)).getD [])) ++ valsOf s i)
abbrev s_item_told : Stmt := top 78
theorem sc_item_told : FnScope ["listing", "number", "item"] ["listing", "number"] (defScope s_item_told) := ⟨rfl, rfl, rfl, by decide +kernel, rfl, by decide +kernel, by decide +kernel⟩
theorem c_item_told (T : Txt K mg A) (c_counted : Ca P w K mg base CX0 1 "counted" spCounted) (c_layer_number : Ca P w K mg base CX0 8 "layer_number" (spLayerNo A)) (D : Dn K mg "item_told" s_item_told ["listing", "number"]) : Ca P w K mg base CX0 9 "item_told" (spItm A itemP) := by
  have sc := sc_item_told
  refine D.ca sc (fun vs H Q E h => ?_) (fun f cdv Ar outer s H vs Q E hr h => ?_)
  · obtain ⟨l, s, i, rfl, _⟩ := h
    rfl
  · obtain ⟨l, sh, i, rfl, hS, g, hi, q⟩ := h
    refine ⟨_, (pss_cons (ps_set (i := 2) sc.nd rfl (Or.inl rfl) (pe_ix ix_list (pe_fld (pv 0) rfl) (pv 1) (fun _ _ => rfl)))
      (pss_one (ps_ret (pe_op op_cat (pe_op op_cat (pe_lst (pa_cons (pe_ca c_layer_number hr (pa_cons (pv 0) (pa_cons (pv 1) pa_nil))) pa_nil)) (pe_ca c_counted hr (pa_cons (pe_fld (pv 2) rfl) pa_nil))) (pe_fld (pv 2) rfl))))), ?_⟩
    obtain ⟨dx, m, it, hl, hM, as, hI, hA⟩ := id hS
    obtain ⟨ai, hai, dxi, ni, ri, a1, a2, a3⟩ := hA.get (List.getElem?_eq_getElem hi)
    have hmem : sh.items[i] ∈ sh.items := List.getElem_mem hi
    refine ⟨_, rfl, l, _, dx, _, _, rfl, hl, T.cL, T.nLi, lu_members, _, rfl, it, _, _, _, rfl, rfl, SqL.of hI, atI_nat (map_at hai), ?_⟩
    -- [layer_number(listing, number)]
    refine ⟨_, rfl, _, rfl, l, sh, i, rfl, hS, g, ranked g, hi, fun H1 s1 => ⟨(by show 1 ≤ sizeLine; decide), fun b nb => ?_⟩⟩
    have s2 : Same H1 (upd H1 b (.lst [nV (layerN sh i)])) := same_new nb
    have s02 := Same.trans s1 s2
    -- + counted(item.name)
    have hn2 := s02 _ _ a2
    rw [bytes_i] at hn2
    refine ⟨_, rfl, ai, _, dxi, _, _, rfl, s02 _ _ a1, T.cI, T.nIn, lu_name, ni, _, rfl, hn2, ?_, fun H3 c s3 nc hc => ?_⟩
    · have := g.nmI _ hmem
      unfold bytesI
      rw [List.length_map]
      omega
    have s03 := Same.trans s02 s3
    have hcl : (cnt (bytesI sh.items[i].name)).length ≤ 17 := by
      have := g.nmI _ hmem
      show (bytesI sh.items[i].name).length + 1 ≤ 17
      unfold bytesI
      rw [List.length_map]
      omega
    refine ⟨b, c, _, _, rfl, rfl, s3 _ _ upd_same, hc, ?_, fun d nd => ?_⟩
    · rw [List.length_map, List.length_singleton]
      exact big_ok (by omega)
    have s4 : Same H3 (upd H3 d (.lst ([nV (layerN sh i)] ++ (cnt (bytesI sh.items[i].name)).map V.int))) := same_new nd
    have s04 := Same.trans s03 s4
    -- + item.row
    refine ⟨_, rfl, ai, _, dxi, _, _, rfl, s04 _ _ a1, T.cI, T.nIr, lu_row, d, ri, _, _, rfl, rfl, upd_same, s04 _ _ a3, ?_, fun D nD => ?_⟩
    · have hw := g.wid _ hmem
      have h4 := g.ms4
      rw [List.length_append, List.length_map, List.length_singleton, List.length_map]
      exact big_ok (by omega)
    · refine q _ D (same_put s04 (s04.free nD)) (s04.free nD) ?_
      rw [upd_same]
      unfold itemP
      rw [valsOf_at (List.getElem?_eq_getElem hi), List.getElem?_eq_getElem hi]
      show some (HO.lst ([nV (layerN sh i)] ++ (cnt (bytesI sh.items[i].name)).map V.int ++ sh.items[i].vs.map V.int)) = some (HO.lst (nV (layerN sh i) :: ((cnt (bytesI sh.items[i].name)) ++ sh.items[i].vs).map V.int))
      rw [List.map_append]
      rfl
end
end Ub
namespace Ub
open PySem PySem.Spec PyProof.Rows L2
open VaskyBase (Bytes word)
/-! ### a call as it stands in the list of calls -/
def rowOf : Vaskya.Call → List Int
  | .load b => 0 :: (b.length : Int) :: bytesI b
  | .shown => [1]
  | .beats i j => [2, i, j]
  | .best => [3]
  | .layers => [4]
  | .beaters i => [5, i]
  | .beaten i => [6, i]
  | .gain i m => [7, i, m]
  | .item i => [8, i]
def aboutP (s : Vaskya.Sheet) : Vaskya.Call → List Int
  | .load _ => []
  | .shown => cnt (bytesI (formN s))
  | .beats i j => cmpP s i j
  | .best => cnt (natsI (unbG (beatN s) (List.range s.items.length)))
  | .layers => layP s
  | .beaters i => if okI s.items.length i = true then bersP s i.toNat else [-2]
  | .beaten i => if okI s.items.length i = true then cnt (natsI (beatenN s i.toNat)) else [-2]
  | .gain i m => if okI s.items.length i = true then gainP s i.toNat m else [-2]
  | .item i => if okI s.items.length i = true then itemP s i.toNat else [-2]
def isLoad : Vaskya.Call → Bool
  | .load _ => true
  | _ => false
section
variable {P : Program} {w : World} {K : PySem.W.Frag} {mg : Str → Option Value} {base : Heap} {A : Ad}
def spAbout (A : Ad) (ok : Vaskya.Call → Prop) : Sp := fun vs H Q _ => ∃ (l c : Addr) (s : Vaskya.Sheet) (k : Vaskya.Call), vs = [.ref l, .ref c] ∧ H c = some (.lst ((rowOf k).map V.int)) ∧ ok k ∧ SheetAt A H l s ∧ Good s ∧
  ∀ H' D, Same H H' → H D = none → H' D = some (.lst ((aboutP s k).map V.int)) → Q (.ref D) H'
inductive Itm : Vaskya.Call → Prop
  | beaters (i : Int) : Itm (.beaters i)
  | beaten (i : Int) : Itm (.beaten i)
  | gain (i m : Int) : Itm (.gain i m)
  | item (i : Int) : Itm (.item i)
theorem at_0 {a : V} {r : List V} : atI (a :: r) 0 = some a := atI_nat (j := 0) rfl
theorem at_1 {a b : V} {r : List V} : atI (a :: b :: r) 1 = some b := atI_nat (j := 1) rfl
theorem at_2 {a b c : V} {r : List V} : atI (a :: b :: c :: r) 2 = some c := atI_nat (j := 2) rfl
abbrev s_answer_about_item : Stmt := top 79
theorem sc_answer_about_item : FnScope ["listing", "call"] ["listing", "call"] (defScope s_answer_about_item) := ⟨rfl, rfl, rfl, by decide +kernel, rfl, by decide +kernel, by decide +kernel⟩
theorem c_answer_about_item (T : Txt K mg A) (c_has_item : Me P w K mg base CX0 1 A.lst "has_item" (spHas A fun s => s.items.length)) (c_beaters_told : Ca P w K mg base CX0 8 "beaters_told" (spItm A bersP)) (c_counted : Ca P w K mg base CX0 1 "counted" spCounted)
    (c_beaten_by : Ca P w K mg base CX0 5 "beaten_by" (spFil A beatenN)) (c_gain_told : Ca P w K mg base CX0 7 "gain_told" (spGain A)) (c_item_told : Ca P w K mg base CX0 9 "item_told" (spItm A itemP)) (D : Dn K mg "answer_about_item" s_answer_about_item ["listing", "call"]) : Ca P w K mg base CX0 10 "answer_about_item" (spAbout A Itm) := by
  have sc := sc_answer_about_item
  refine D.ca sc (fun vs H Q E h => ?_) (fun f cdv Ar outer s H vs Q E hr h => ?_)
  · obtain ⟨l, c, s, k, rfl, _⟩ := h
    rfl
  · obtain ⟨l, c, sh, k, rfl, hc, hk, hS, g, q⟩ := h
    refine ⟨_, (pss_cons (ps_if (pt_not (pt_val (pe_mx c_has_item T.cL hr pass0 (pv 0) (pa_cons (pe_ix ix_list (pv 1) pe_int (fun _ _ => rfl)) pa_nil)))) (pss_one (ps_ret (pe_lst (pa_cons (pe_un un_neg pe_int) pa_nil)))) pss_nil)
      (pss_cons (ps_if (pt_cmpR op_eq (pe_ix ix_list (pv 1) pe_int (fun _ _ => rfl)) (pe_gi rfl T.gBEATERS) (nomark _)) (pss_one (ps_ret (pe_ca c_beaters_told hr (pa_cons (pv 0) (pa_cons (pe_ix ix_list (pv 1) pe_int (fun _ _ => rfl)) pa_nil))))) pss_nil)
      (pss_cons (ps_if (pt_cmpR op_eq (pe_ix ix_list (pv 1) pe_int (fun _ _ => rfl)) (pe_gi rfl T.gBEATEN) (nomark _)) (pss_one (ps_ret (pe_ca c_counted hr (pa_cons (pe_ca c_beaten_by hr (pa_cons (pv 0) (pa_cons (pe_ix ix_list (pv 1) pe_int (fun _ _ => rfl)) pa_nil))) pa_nil)))) pss_nil)
      (pss_cons (ps_if (pt_cmpR op_eq (pe_ix ix_list (pv 1) pe_int (fun _ _ => rfl)) (pe_gi rfl T.gGAIN) (nomark _)) (pss_one (ps_ret (pe_ca c_gain_told hr (pa_cons (pv 0) (pa_cons (pe_ix ix_list (pv 1) pe_int (fun _ _ => rfl)) (pa_cons (pe_ix ix_list (pv 1) pe_int (fun _ _ => rfl)) pa_nil)))))) pss_nil)
      (pss_one (ps_ret (pe_ca c_item_told hr (pa_cons (pv 0) (pa_cons (pe_ix ix_list (pv 1) pe_int (fun _ _ => rfl)) pa_nil))))))))), ?_⟩
    obtain ⟨dx, m, it, hl, _⟩ := id hS
    have size1 : (1 : Nat) ≤ sizeLine := by decide
    cases hk with
    | beaters i =>
      have hc' : H c = some (.lst [.int 5, .int i]) := hc
      refine ⟨_, rfl, l, dx, _, rfl, hl, lu_nometh, _, rfl, c, _, _, _, rfl, rfl, SqL.of hc', at_1, l, sh, i, rfl, hS, _, rfl, ?_⟩
      have q' : ∀ H' D, Same H H' → H D = none → H' D = some (.lst ((if okI sh.items.length i = true then bersP sh i.toNat else [-2]).map V.int)) → Q (.ref D) H' := q
      cases hi : okI sh.items.length i with
      | false =>
        rw [show decide (0 ≤ i ∧ i < (sh.items.length : Int)) = false from hi]
        rw [if_neg (by rw [hi]; exact Bool.false_ne_true)] at q'
        exact iteT ⟨_, rfl, size1, fun D nD => one_made q' rfl (Same.refl H) nD⟩
      | true =>
        rw [show decide (0 ≤ i ∧ i < (sh.items.length : Int)) = true from hi]
        rw [if_pos hi] at q'
        obtain ⟨ni, ei⟩ := okI_nat hi
        refine iteF ⟨_, rfl, c, _, _, _, rfl, rfl, SqL.of hc', at_0, rfl, _, rfl, iteT ?_⟩
        refine ⟨_, rfl, _, rfl, c, _, _, _, rfl, rfl, SqL.of hc', at_1, l, sh, i.toNat, ?_, hS, g, ni, q'⟩
        show [V.ref l, V.int i] = _
        rw [ei]
    | beaten i =>
      have hc' : H c = some (.lst [.int 6, .int i]) := hc
      refine ⟨_, rfl, l, dx, _, rfl, hl, lu_nometh, _, rfl, c, _, _, _, rfl, rfl, SqL.of hc', at_1, l, sh, i, rfl, hS, _, rfl, ?_⟩
      have q' : ∀ H' D, Same H H' → H D = none → H' D = some (.lst ((if okI sh.items.length i = true then cnt (natsI (beatenN sh i.toNat)) else [-2]).map V.int)) → Q (.ref D) H' := q
      cases hi : okI sh.items.length i with
      | false =>
        rw [show decide (0 ≤ i ∧ i < (sh.items.length : Int)) = false from hi]
        rw [if_neg (by rw [hi]; exact Bool.false_ne_true)] at q'
        exact iteT ⟨_, rfl, size1, fun D nD => one_made q' rfl (Same.refl H) nD⟩
      | true =>
        rw [show decide (0 ≤ i ∧ i < (sh.items.length : Int)) = true from hi]
        rw [if_pos hi] at q'
        obtain ⟨ni, ei⟩ := okI_nat hi
        refine iteF ⟨_, rfl, c, _, _, _, rfl, rfl, SqL.of hc', at_0, rfl, _, rfl, iteF ?_⟩
        refine ⟨_, rfl, c, _, _, _, rfl, rfl, SqL.of hc', at_0, rfl, _, rfl, iteT ?_⟩
        refine ⟨_, rfl, _, rfl, c, _, _, _, rfl, rfl, SqL.of hc', at_1, l, sh, i.toNat, ?_, hS, g, ni, fun H1 a s1 na ha => ?_⟩
        · show [V.ref l, V.int i] = _
          rw [ei]
        · rw [nats_i] at ha
          exact ⟨a, _, rfl, ha, natsI_len (fil_len _ g), fun H2 b s2 nb hb => q' H2 b (Same.trans s1 s2) (s1.free nb) hb⟩
    | gain i m =>
      have hc' : H c = some (.lst [.int 7, .int i, .int m]) := hc
      refine ⟨_, rfl, l, dx, _, rfl, hl, lu_nometh, _, rfl, c, _, _, _, rfl, rfl, SqL.of hc', at_1, l, sh, i, rfl, hS, _, rfl, ?_⟩
      have q' : ∀ H' D, Same H H' → H D = none → H' D = some (.lst ((if okI sh.items.length i = true then gainP sh i.toNat m else [-2]).map V.int)) → Q (.ref D) H' := q
      cases hi : okI sh.items.length i with
      | false =>
        rw [show decide (0 ≤ i ∧ i < (sh.items.length : Int)) = false from hi]
        rw [if_neg (by rw [hi]; exact Bool.false_ne_true)] at q'
        exact iteT ⟨_, rfl, size1, fun D nD => one_made q' rfl (Same.refl H) nD⟩
      | true =>
        rw [show decide (0 ≤ i ∧ i < (sh.items.length : Int)) = true from hi]
        rw [if_pos hi] at q'
        obtain ⟨ni, ei⟩ := okI_nat hi
        refine iteF ⟨_, rfl, c, _, _, _, rfl, rfl, SqL.of hc', at_0, rfl, _, rfl, iteF ?_⟩
        refine ⟨_, rfl, c, _, _, _, rfl, rfl, SqL.of hc', at_0, rfl, _, rfl, iteF ?_⟩
        refine ⟨_, rfl, c, _, _, _, rfl, rfl, SqL.of hc', at_0, rfl, _, rfl, iteT ?_⟩
        refine ⟨_, rfl, _, rfl, c, _, _, _, rfl, rfl, SqL.of hc', at_1, _, rfl, c, _, _, _, rfl, rfl, SqL.of hc', at_2, l, sh, i.toNat, m, ?_, hS, g, ni, q'⟩
        show [V.ref l, V.int i, V.int m] = _
        rw [ei]
    | item i =>
      have hc' : H c = some (.lst [.int 8, .int i]) := hc
      refine ⟨_, rfl, l, dx, _, rfl, hl, lu_nometh, _, rfl, c, _, _, _, rfl, rfl, SqL.of hc', at_1, l, sh, i, rfl, hS, _, rfl, ?_⟩
      have q' : ∀ H' D, Same H H' → H D = none → H' D = some (.lst ((if okI sh.items.length i = true then itemP sh i.toNat else [-2]).map V.int)) → Q (.ref D) H' := q
      cases hi : okI sh.items.length i with
      | false =>
        rw [show decide (0 ≤ i ∧ i < (sh.items.length : Int)) = false from hi]
        rw [if_neg (by rw [hi]; exact Bool.false_ne_true)] at q'
        exact iteT ⟨_, rfl, size1, fun D nD => one_made q' rfl (Same.refl H) nD⟩
      | true =>
        rw [show decide (0 ≤ i ∧ i < (sh.items.length : Int)) = true from hi]
        rw [if_pos hi] at q'
        obtain ⟨ni, ei⟩ := okI_nat hi
        refine iteF ⟨_, rfl, c, _, _, _, rfl, rfl, SqL.of hc', at_0, rfl, _, rfl, iteF ?_⟩
        refine ⟨_, rfl, c, _, _, _, rfl, rfl, SqL.of hc', at_0, rfl, _, rfl, iteF ?_⟩
        refine ⟨_, rfl, c, _, _, _, rfl, rfl, SqL.of hc', at_0, rfl, _, rfl, iteF ?_⟩
        refine ⟨_, rfl, _, rfl, c, _, _, _, rfl, rfl, SqL.of hc', at_1, l, sh, i.toNat, ?_, hS, g, ni, q'⟩
        show [V.ref l, V.int i] = _
        rw [ei]
/-! ### answer_about -/
theorem form_len {s : Vaskya.Sheet} (g : Good s) : (bytesI (formN s)).length ≤ 16000000 := by
  have h1 := lineM_len g
  have h2 := flat_len (s.items.map lineI) (k := 200) fun b hb => by
    obtain ⟨j, hj, rfl⟩ := List.mem_map.mp hb
    exact lineI_len g hj
  rw [List.length_map] at h2
  have h3 := Nat.mul_le_mul_left 200 g.is16
  unfold bytesI formN
  rw [List.length_map, List.length_append]
  omega
abbrev s_answer_about : Stmt := top 80
theorem sc_answer_about : FnScope ["listing", "call"] ["listing", "call"] (defScope s_answer_about) := ⟨rfl, rfl, rfl, by decide +kernel, rfl, by decide +kernel, by decide +kernel⟩
theorem c_answer_about (T : Txt K mg A) (c_counted : Ca P w K mg base CX0 1 "counted" spCounted) (c_one_form : Ca P w K mg base CX0 4 "one_form" (spForm A)) (c_compared : Ca P w K mg base CX0 5 "compared" (spAns A 2 cmpA)) (c_unbeaten_among : Ca P w K mg base CX0 6 "unbeaten_among" (spUnbAmong A))
    (c_numbers : Me P w K mg base CX0 1 A.lst "numbers" (spNumbers A)) (c_layers_told : Ca P w K mg base CX0 8 "layers_told" (spAns A 0 fun s _ => layP s)) (c_answer_about_item : Ca P w K mg base CX0 10 "answer_about_item" (spAbout A Itm)) (D : Dn K mg "answer_about" s_answer_about ["listing", "call"]) :
    Ca P w K mg base CX0 11 "answer_about" (spAbout A fun k => isLoad k = false) := by
  have sc := sc_answer_about
  refine D.ca sc (fun vs H Q E h => ?_) (fun f cdv Ar outer s H vs Q E hr h => ?_)
  · obtain ⟨l, c, s, k, rfl, _⟩ := h
    rfl
  · obtain ⟨l, c, sh, k, rfl, hc, hk, hS, g, q⟩ := h
    refine ⟨_, (pss_cons (ps_if (pt_cmpR op_eq (pe_ix ix_list (pv 1) pe_int (fun _ _ => rfl)) (pe_gi rfl T.gSHOWN) (nomark _)) (pss_one (ps_ret (pe_ca c_counted hr (pa_cons (pe_ca c_one_form hr (pa_cons (pv 0) pa_nil)) pa_nil)))) pss_nil)
      (pss_cons (ps_if (pt_cmpR op_eq (pe_ix ix_list (pv 1) pe_int (fun _ _ => rfl)) (pe_gi rfl T.gBEATS) (nomark _)) (pss_one (ps_ret (pe_ca c_compared hr (pa_cons (pv 0) (pa_cons (pe_ix ix_list (pv 1) pe_int (fun _ _ => rfl)) (pa_cons (pe_ix ix_list (pv 1) pe_int (fun _ _ => rfl)) pa_nil)))))) pss_nil)
      (pss_cons (ps_if (pt_cmpR op_eq (pe_ix ix_list (pv 1) pe_int (fun _ _ => rfl)) (pe_gi rfl T.gBEST) (nomark _)) (pss_one (ps_ret (pe_ca c_counted hr (pa_cons (pe_ca c_unbeaten_among hr (pa_cons (pv 0) (pa_cons (pe_mx0 c_numbers T.cL hr pass0 (pv 0)) pa_nil))) pa_nil)))) pss_nil)
      (pss_cons (ps_if (pt_cmpR op_eq (pe_ix ix_list (pv 1) pe_int (fun _ _ => rfl)) (pe_gi rfl T.gLAYERS) (nomark _)) (pss_one (ps_ret (pe_ca c_layers_told hr (pa_cons (pv 0) pa_nil)))) pss_nil)
      (pss_one (ps_ret (pe_ca c_answer_about_item hr (pa_cons (pv 0) (pa_cons (pv 1) pa_nil))))))))), ?_⟩
    obtain ⟨dx, m, it, hl, _⟩ := id hS
    have items : ∀ k', k = k' → Itm k' → ∀ r, rowOf k' = r → spAbout A Itm [.ref l, .ref c] H Q E0 := fun k' e hi r hr => ⟨l, c, sh, k, rfl, hc, by rw [e]; exact hi, hS, g, q⟩
    cases k with
    | load b => cases hk
    | shown =>
      have hc' : H c = some (.lst [.int 1]) := hc
      refine ⟨_, rfl, c, _, _, _, rfl, rfl, SqL.of hc', at_0, rfl, _, rfl, iteT ?_⟩
      refine ⟨_, rfl, l, sh, rfl, hS, g, fun H1 a s1 na ha => ?_⟩
      rw [bytes_i] at ha
      exact ⟨a, _, rfl, ha, form_len g, fun H2 b s2 nb hb => q H2 b (Same.trans s1 s2) (s1.free nb) hb⟩
    | beats i j =>
      have hc' : H c = some (.lst [.int 2, .int i, .int j]) := hc
      refine ⟨_, rfl, c, _, _, _, rfl, rfl, SqL.of hc', at_0, rfl, _, rfl, iteF ?_⟩
      refine ⟨_, rfl, c, _, _, _, rfl, rfl, SqL.of hc', at_0, rfl, _, rfl, iteT ?_⟩
      exact ⟨_, rfl, _, rfl, c, _, _, _, rfl, rfl, SqL.of hc', at_1, _, rfl, c, _, _, _, rfl, rfl, SqL.of hc', at_2, l, sh, [i, j], rfl, rfl, hS, g, q⟩
    | best =>
      have hc' : H c = some (.lst [.int 3]) := hc
      refine ⟨_, rfl, c, _, _, _, rfl, rfl, SqL.of hc', at_0, rfl, _, rfl, iteF ?_⟩
      refine ⟨_, rfl, c, _, _, _, rfl, rfl, SqL.of hc', at_0, rfl, _, rfl, iteF ?_⟩
      refine ⟨_, rfl, c, _, _, _, rfl, rfl, SqL.of hc', at_0, rfl, _, rfl, iteT ?_⟩
      refine ⟨_, rfl, _, rfl, l, dx, _, rfl, hl, lu_nometh, l, sh, rfl, hS, g, fun p np => ?_⟩
      have sp : Same H (upd H p (.lst ((List.range sh.items.length).map nV))) := same_new np
      refine ⟨l, p, sh, _, rfl, hS.mono sp, g, upd_same, fun n hn => mem_range hn, by rw [List.length_range]; exact g.is16, fun H1 a s1 na ha => ?_⟩
      rw [nats_i] at ha
      refine ⟨a, _, rfl, ha, natsI_len (Nat.le_trans (unbG_len _ _) (by rw [List.length_range]; exact g.is16)), fun H2 b s2 nb hb => ?_⟩
      exact q H2 b (Same.trans sp (Same.trans s1 s2)) (sp.free (s1.free nb)) hb
    | layers =>
      have hc' : H c = some (.lst [.int 4]) := hc
      refine ⟨_, rfl, c, _, _, _, rfl, rfl, SqL.of hc', at_0, rfl, _, rfl, iteF ?_⟩
      refine ⟨_, rfl, c, _, _, _, rfl, rfl, SqL.of hc', at_0, rfl, _, rfl, iteF ?_⟩
      refine ⟨_, rfl, c, _, _, _, rfl, rfl, SqL.of hc', at_0, rfl, _, rfl, iteF ?_⟩
      refine ⟨_, rfl, c, _, _, _, rfl, rfl, SqL.of hc', at_0, rfl, _, rfl, iteT ?_⟩
      exact ⟨_, rfl, l, sh, [], rfl, rfl, hS, g, q⟩
    | beaters i =>
      have hc' : H c = some (.lst [.int 5, .int i]) := hc
      refine ⟨_, rfl, c, _, _, _, rfl, rfl, SqL.of hc', at_0, rfl, _, rfl, iteF ?_⟩
      refine ⟨_, rfl, c, _, _, _, rfl, rfl, SqL.of hc', at_0, rfl, _, rfl, iteF ?_⟩
      refine ⟨_, rfl, c, _, _, _, rfl, rfl, SqL.of hc', at_0, rfl, _, rfl, iteF ?_⟩
      refine ⟨_, rfl, c, _, _, _, rfl, rfl, SqL.of hc', at_0, rfl, _, rfl, iteF ?_⟩
      exact ⟨_, rfl, _, rfl, l, c, sh, _, rfl, hc, .beaters i, hS, g, q⟩
    | beaten i =>
      have hc' : H c = some (.lst [.int 6, .int i]) := hc
      refine ⟨_, rfl, c, _, _, _, rfl, rfl, SqL.of hc', at_0, rfl, _, rfl, iteF ?_⟩
      refine ⟨_, rfl, c, _, _, _, rfl, rfl, SqL.of hc', at_0, rfl, _, rfl, iteF ?_⟩
      refine ⟨_, rfl, c, _, _, _, rfl, rfl, SqL.of hc', at_0, rfl, _, rfl, iteF ?_⟩
      refine ⟨_, rfl, c, _, _, _, rfl, rfl, SqL.of hc', at_0, rfl, _, rfl, iteF ?_⟩
      exact ⟨_, rfl, _, rfl, l, c, sh, _, rfl, hc, .beaten i, hS, g, q⟩
    | gain i m =>
      have hc' : H c = some (.lst [.int 7, .int i, .int m]) := hc
      refine ⟨_, rfl, c, _, _, _, rfl, rfl, SqL.of hc', at_0, rfl, _, rfl, iteF ?_⟩
      refine ⟨_, rfl, c, _, _, _, rfl, rfl, SqL.of hc', at_0, rfl, _, rfl, iteF ?_⟩
      refine ⟨_, rfl, c, _, _, _, rfl, rfl, SqL.of hc', at_0, rfl, _, rfl, iteF ?_⟩
      refine ⟨_, rfl, c, _, _, _, rfl, rfl, SqL.of hc', at_0, rfl, _, rfl, iteF ?_⟩
      exact ⟨_, rfl, _, rfl, l, c, sh, _, rfl, hc, .gain i m, hS, g, q⟩
    | item i =>
      have hc' : H c = some (.lst [.int 8, .int i]) := hc
      refine ⟨_, rfl, c, _, _, _, rfl, rfl, SqL.of hc', at_0, rfl, _, rfl, iteF ?_⟩
      refine ⟨_, rfl, c, _, _, _, rfl, rfl, SqL.of hc', at_0, rfl, _, rfl, iteF ?_⟩
      refine ⟨_, rfl, c, _, _, _, rfl, rfl, SqL.of hc', at_0, rfl, _, rfl, iteF ?_⟩
      refine ⟨_, rfl, c, _, _, _, rfl, rfl, SqL.of hc', at_0, rfl, _, rfl, iteF ?_⟩
      exact ⟨_, rfl, _, rfl, l, c, sh, _, rfl, hc, .item i, hS, g, q⟩
end
end Ub
namespace Ub
open PySem PySem.Spec PyProof.Rows L2
open VaskyBase (Bytes word)
/-! ### the holder -/
def HoldAt (A : Ad) (S : Addr → Prop) (H : Hp) (h : Addr) (o : Option Vaskya.Sheet) : Prop :=
  S h ∧ ∃ dx v, H h = some (.ins A.hol dx [("held", v)]) ∧ match o with | none => v = .non | some s => ∃ l, v = .ref l ∧ SheetAt A (off S H) l s ∧ Good s
def loadP (o : Option Vaskya.Sheet) (b : Bytes) : Option Vaskya.Sheet × List Int :=
  match Vaskya.read b with
  | .ok s => (some s, [1, (s.ms.length : Int), (s.items.length : Int)])
  | .error f => (o, [0, (f.code : Int), (f.place : Int)])
def stepP (o : Option Vaskya.Sheet) : Vaskya.Call → Option Vaskya.Sheet × List Int
  | .load b => loadP o b
  | k => match o with
    | none => (none, [-1])
    | some s => (some s, aboutP s k)
theorem stepP_about {k : Vaskya.Call} (h : isLoad k = false) (o : Option Vaskya.Sheet) : stepP o k = match o with | none => (none, [-1]) | some s => (some s, aboutP s k) := by
  cases k with
  | load b => cases h
  | _ => rfl
theorem lh_held {v : V} : List.lookup ("held" : Str) [("held", v)] = some v := lk_hd
theorem lh_no {m : Str} {v : V} (h : (m == ("held" : Str)) = false := by decide +kernel) : List.lookup m [("held", v)] = none := lk_tl h lk_nil
theorem HoldAt.same {A : Ad} {S : Addr → Prop} {H H' : Hp} {h : Addr} {o : Option Vaskya.Sheet} (s : Same H H') (x : HoldAt A S H h o) : HoldAt A S H' h o := by
  obtain ⟨hS, dx, v, h1, h2⟩ := x
  refine ⟨hS, dx, v, s _ _ h1, ?_⟩
  cases o with
  | none => exact h2
  | some sh =>
    obtain ⟨l, e, h3, g⟩ := h2
    exact ⟨l, e, h3.mono (Same.off s), g⟩
theorem HoldAt.write {A : Ad} {S : Addr → Prop} {H : Hp} {h p : Addr} {u : HO} {o : Option Vaskya.Sheet} (hp : S p) (hne : h ≠ p) (x : HoldAt A S H h o) : HoldAt A S (upd H p u) h o := by
  obtain ⟨hS, dx, v, h1, h2⟩ := x
  refine ⟨hS, dx, v, by rw [upd_ne hne]; exact h1, ?_⟩
  rw [off_write hp]
  exact h2
section
variable {P : Program} {w : World} {K : PySem.W.Frag} {mg : Str → Option Value} {base : Heap} {A : Ad}
def spHolInit (A : Ad) : Sp := fun vs H Q _ => ∃ (x dx : Addr), vs = [.ref x] ∧ H x = some (.ins A.hol dx []) ∧ Q .non (upd H x (.ins A.hol dx [("held", .non)]))
abbrev s_Holder_init : Stmt := inClass (top 72) 0
theorem sc_Holder_init : FnScope ["self"] ["self"] (defScope s_Holder_init) := ⟨rfl, rfl, rfl, by decide +kernel, rfl, by decide +kernel, by decide +kernel⟩
theorem m_Holder (T : Txt K mg A) (D : In K mg "Holder" A.hol "Holder.__init__" s_Holder_init ["self"]) : Ma P w K mg base 1 "Holder" A.hol (spHolInit A) := by
  have sc := sc_Holder_init
  refine D.ma sc (fun vs H Q E h => ?_) (fun f cdv Ar outer s H vs Q E hr h => ?_)
  · obtain ⟨x, dx, rfl, _⟩ := h
    rfl
  · obtain ⟨x, dx, rfl, hx, q⟩ := h
    refine ⟨_, (pss_one (ps_fld (pv 0) pe_non rfl)), ?_⟩
    exact ⟨_, rfl, x, _, dx, _, rfl, hx, T.cH, T.nHh, by decide, q⟩
/-! ### load -/
def spLoad (A : Ad) : Sp := fun vs H Q _ => ∃ (h t : Addr) (bs : Bytes) (o : Option Vaskya.Sheet) (S : Addr → Prop), vs = [.ref h, .ref t] ∧ Dom S H ∧ HoldAt A S H h o ∧ H t = some (.lst (bs.map bV)) ∧
  ∀ H' D, SameR h H H' → H D = none → HoldAt A S H' h (loadP o bs).1 → H' D = some (.lst ((loadP o bs).2.map V.int)) → Q (.ref D) H'
abbrev s_Holder_load : Stmt := inClass (top 72) 1
theorem sc_Holder_load : FnScope ["self", "text", "fault"] ["self", "text"] (defScope s_Holder_load) := ⟨rfl, rfl, rfl, by decide +kernel, rfl, by decide +kernel, by decide +kernel⟩
theorem c_load (T : Txt K mg A) (c_read_list : Ca P w K mg base (L2.CX P w) 6 "read_list" (spReadList K A)) (D : Mn K A.hol "load" "Holder.load" s_Holder_load ["self", "text"]) : Me P w K mg base CX0 7 A.hol "load" (spLoad A) := by
  have sc := sc_Holder_load
  refine D.me sc (fun vs H Q E h => ?_) (fun f cdv Ar outer s H vs Q E hr h => ?_)
  · obtain ⟨h, t, bs, o, S, rfl, _⟩ := h
    rfl
  · obtain ⟨h, t, bs, o, S, rfl, d, ⟨hS, dx, v, h1, h2⟩, ht, q⟩ := h
    refine ⟨_, pss_cons (ps_try_as (i := 2) (tb := fun W => sFld K (tVar 0) (tCallS (spReadList K A) (WE W) (tCons (tVar 1) tNil)) "held")
        (ts := fun a cls d => tRet (tLst (tCons (tC (.int 0)) (tCons (tXf a cls d A.flt "code" (tVar 2)) (tCons (tXf a cls d A.flt "place" (tVar 2)) tNil))))) (Wout := fun _ _ _ _ => False) rfl rfl sc.nd rfl rfl ⟨rfl, by decide, .inl T.flt.gC⟩ takes0
        (fun W pn xe tk _ => pss_one (ps_fld (pv 0) (by exact (pe_cs c_read_list hr (fun σ => passAt tk σ) (by exact (pa_cons (pv 1) pa_nil)))) rfl))
        (fun a oe cls d pn hz hf => pss_one (ps_ret (by exact (pe_lst (pa_cons pe_int (pa_cons (pe_xf T.flt.xf T.flt.noC hz hf (pv 2)) (pa_cons (pe_xf T.flt.xf T.flt.noP hz hf (pv 2)) pa_nil))))))))
      (pss_one (ps_ret (pe_lst (pa_cons pe_int (pa_cons (pe_callB call_len_seq (by rfl) T.len PySem.boot_len (pa_cons (pe_fld (pe_fld (pv 0) rfl) rfl) pa_nil)) (pa_cons (pe_callB call_len_seq (by rfl) T.len PySem.boot_len (pa_cons (pe_fld (pe_fld (pv 0) rfl) rfl) pa_nil)) pa_nil)))))), ?_⟩
    have size3 : (3 : Nat) ≤ sizeLine := by decide
    unfold loadP at q
    refine ⟨_, rfl, t, bs, S, rfl, ht, d, ?_⟩
    cases hrd : Vaskya.read bs with
    | error fl =>
      rw [hrd] at q
      intro H1 dd s1 hd
      refine ⟨true, T.flt.te, fun _ a0 _ => ?_, fun z => Bool.noConfusion z⟩
      refine ⟨_, rfl, rfl, rfl, dd, _, _, rfl, hd, fPairs_code _ _, _, rfl, rfl, rfl, dd, _, _, rfl, hd, fPairs_place _ _, size3, fun D nD => ?_⟩
      have hh : HoldAt A S H h o := ⟨hS, dx, v, h1, h2⟩
      have s2 : Same H (upd H1 D (.lst [.int 0, nV fl.code, nV fl.place])) := same_put s1 (s1.free nD)
      exact q _ D (Same.b s2) (s1.free nD) (hh.same s2) upd_same
    | ok sh =>
      rw [hrd] at q
      intro H1 l s1 nl hl
      refine ⟨_, rfl, h, _, dx, _, rfl, s1 _ _ h1, T.cH, T.nHh, (by show 1 < 1000; decide), ?_⟩
      have ep : putF "held" (V.ref l) ([("held", v)] : List (Str × V)) = ([("held", V.ref l)] : List (Str × V)) := putF_hd
      rw [ep]
      have eo : off S (upd H1 h (.ins A.hol dx [("held", .ref l)])) = off S H1 := off_write hS
      have hl2 : SheetAt A (off S (upd H1 h (.ins A.hol dx [("held", .ref l)]))) l sh := by
        rw [eo]
        exact hl
      obtain ⟨dz, m, i, z1, ⟨ms, z2, z3⟩, ⟨is, z4, z5⟩⟩ := id (hl2.mono off_same)
      refine ⟨_, rfl, h, _, dx, _, _, rfl, upd_same, T.cH, T.nHh, lh_held, l, _, dz, _, _, rfl, z1, T.cL, T.nLm, lu_measures, m, _, rfl, .inl (SqL.of z2), ?_⟩
      refine ⟨_, rfl, h, _, dx, _, _, rfl, upd_same, T.cH, T.nHh, lh_held, l, _, dz, _, _, rfl, z1, T.cL, T.nLi, lu_members, i, _, rfl, .inl (SqL.of z4), ?_⟩
      rw [List.length_map, List.length_map, z3.1, z5.1]
      refine ⟨size3, fun D nD => ?_⟩
      have nDh : h ≠ D := fun z => by
        rw [← z, upd_same] at nD
        cases nD
      have nD1 : H1 D = none := by
        rw [upd_ne nDh.symm] at nD
        exact nD
      refine q _ D ?_ (s1.free nD1) ⟨hS, dx, .ref l, by rw [upd_ne nDh]; exact upd_same, l, rfl, hl2.mono (Same.off (same_new nD)), read_good hrd⟩ upd_same
      intro b u nb e
      rw [upd_ne (ne_of_none (s1 _ _ e) nD1), upd_ne nb]
      exact s1 _ _ e
end
end Ub
namespace Ub
open PySem PySem.Spec PyProof.Rows L2
open VaskyBase (Bytes word)
section
variable {P : Program} {w : World} {K : PySem.W.Frag} {mg : Str → Option Value} {base : Heap} {A : Ad}
/-! ### answer -/
theorem cut_from (xs : List V) (n : Nat) : cutV xs (some (n : Int)) none = xs.drop n := by
  unfold cutV
  rw [show HT.sIx xs.length 0 (some (n : Int)) = min n xs.length from HT.sIx_nat xs.length 0 n, HT.sIx_none]
  by_cases h : n ≤ xs.length
  · rw [Nat.min_eq_left h]
    exact List.take_of_length_le (by rw [List.length_drop]; exact Nat.le_refl _)
  · rw [Nat.min_eq_right (by omega), List.drop_length, List.drop_of_length_le (by omega), List.take_nil]
def spAnswer (A : Ad) : Sp := fun vs H Q _ => ∃ (h c : Addr) (k : Vaskya.Call) (o : Option Vaskya.Sheet) (S : Addr → Prop), vs = [.ref h, .ref c] ∧ Dom S H ∧ HoldAt A S H h o ∧ H c = some (.lst ((rowOf k).map V.int)) ∧
  ∀ H' D, SameR h H H' → H D = none → HoldAt A S H' h (stepP o k).1 → H' D = some (.lst ((stepP o k).2.map V.int)) → Q (.ref D) H'
theorem row_head {k : Vaskya.Call} (h : isLoad k = false) : ∃ (p : Int) (r : List Int), rowOf k = p :: r ∧ p ≠ 0 := by
  cases k with
  | load b => cases h
  | _ => exact ⟨_, _, rfl, by decide⟩
abbrev s_Holder_answer : Stmt := inClass (top 72) 2
theorem sc_Holder_answer : FnScope ["self", "call"] ["self", "call"] (defScope s_Holder_answer) := ⟨rfl, rfl, rfl, by decide +kernel, rfl, by decide +kernel, by decide +kernel⟩
theorem c_answer (T : Txt K mg A) (c_load : Me P w K mg base CX0 7 A.hol "load" (spLoad A)) (c_answer_about : Ca P w K mg base CX0 11 "answer_about" (spAbout A fun k => isLoad k = false)) (D : Mn K A.hol "answer" "Holder.answer" s_Holder_answer ["self", "call"]) : Me P w K mg base CX0 12 A.hol "answer" (spAnswer A) := by
  have sc := sc_Holder_answer
  refine D.me sc (fun vs H Q E h => ?_) (fun f cdv Ar outer s H vs Q E hr h => ?_)
  · obtain ⟨h, c, k, o, S, rfl, _⟩ := h
    rfl
  · obtain ⟨h, c, k, o, S, rfl, d, hh, hc, q⟩ := h
    refine ⟨_, (pss_cons (ps_if (pt_cmpR op_eq (pe_ix ix_list (pv 1) pe_int (fun _ _ => rfl)) (pe_gi rfl T.gLOAD) (nomark _)) (pss_one (ps_ret (pe_mx c_load T.cH hr pass0 (pv 0) (pa_cons (pe_slice sl_list (pv 1) (po_some pe_int) po_none) pa_nil)))) pss_nil)
      (pss_cons (ps_if (pt_cmpR op_isN (pe_fld (pv 0) rfl) pe_non (nomark _)) (pss_one (ps_ret (pe_lst (pa_cons (pe_un un_neg pe_int) pa_nil)))) pss_nil)
      (pss_one (ps_ret (pe_ca c_answer_about hr (pa_cons (pe_fld (pv 0) rfl) (pa_cons (pv 1) pa_nil))))))), ?_⟩
    obtain ⟨hS, dx, v, h1, h2⟩ := id hh
    cases hk : isLoad k with
    | true =>
      cases k with
      | load b =>
        have hc' : H c = some (.lst (.int 0 :: .int (b.length : Int) :: (bytesI b).map V.int)) := hc
        refine ⟨_, rfl, c, _, _, _, rfl, rfl, SqL.of hc', at_0, rfl, _, rfl, iteT ?_⟩
        refine ⟨_, rfl, h, dx, _, rfl, h1, lh_no, _, rfl, 2, rfl, c, _, rfl, SqL.of hc', fun t nt => ?_⟩
        rw [show cutV (.int 0 :: .int (b.length : Int) :: (bytesI b).map V.int) (some 2) none = (bytesI b).map V.int from cut_from _ 2, ← bytes_i]
        have st : Same H (upd H t (.lst (b.map bV))) := same_new nt
        refine ⟨h, t, b, o, S, rfl, d.mono st, hh.same st, upd_same, fun H' D s2 nD hD1 hD2 => ?_⟩
        exact q H' D ((Same.b st).trans s2) (st.free nD) hD1 hD2
      | _ => cases hk
    | false =>
      rw [stepP_about hk] at q
      obtain ⟨p, r, hr1, hr2⟩ := row_head hk
      have hc' : H c = some (.lst (.int p :: r.map V.int)) := by
        rw [hc, hr1]
        rfl
      refine ⟨_, rfl, c, _, _, _, rfl, rfl, SqL.of hc', at_0, rfl, _, rfl, ?_⟩
      rw [decide_eq_false (show ¬ V.int p = V.int 0 from fun z => hr2 (by injection z))]
      refine iteF ⟨_, rfl, h, _, dx, _, _, rfl, h1, T.cH, T.nHh, lh_held, rfl, _, rfl, ?_⟩
      cases o with
      | none =>
        have hv : v = .non := h2
        subst hv
        refine iteT ⟨_, rfl, (by show 1 ≤ sizeLine; decide), fun D nD => ?_⟩
        have s1 : Same H (upd H D (.lst [.int (-1)])) := same_new nD
        exact q _ D (Same.b s1) nD (hh.same s1) upd_same
      | some sh =>
        obtain ⟨l, rfl, hl, g⟩ := h2
        refine iteF ⟨_, rfl, h, _, dx, _, _, rfl, h1, T.cH, T.nHh, lh_held, _, rfl, l, c, sh, k, rfl, hc, hk, hl.mono off_same, g, fun H' D s1 nD hD => ?_⟩
        exact q H' D (Same.b s1) nD (hh.same s1) hD
/-! ### call_end -/
theorem row_pos (k : Vaskya.Call) : 1 ≤ (rowOf k).length := by
  cases k <;> (show 1 ≤ _ + 1; omega)
def spCallEnd (K : PySem.W.Frag) : Sp := fun vs H Q _ => ∃ (a : Addr) (ns : List Int) (at_ : Nat) (k : Vaskya.Call) (rest : List Int), vs = [.ref a, nV at_] ∧ SqL K H a (ns.map V.int) ∧ ns.drop at_ = rowOf k ++ rest ∧ Q (nV (at_ + (rowOf k).length)) H
theorem drop_at {ns : List Int} {i j : Nat} {x : Int} {l : List Int} (h : ns.drop i = l) (hx : l[j]? = some x) : ns[i + j]? = some x := by
  rw [← h, List.getElem?_drop] at hx
  exact hx
theorem count_row {k : Vaskya.Call} (h : isLoad k = false) : ∃ (p : Int) (r : List Int), rowOf k = p :: r ∧ p ≠ 0 ∧ countAt p = some (r.length : Int) := by
  cases k with
  | load b => cases h
  | _ => exact ⟨_, _, rfl, by decide, by rfl⟩
abbrev s_call_end : Stmt := top 81
theorem sc_call_end : FnScope ["calls", "at"] ["calls", "at"] (defScope s_call_end) := ⟨rfl, rfl, rfl, by decide +kernel, rfl, by decide +kernel, by decide +kernel⟩
theorem c_call_end (T : Txt K mg A) (D : Dn K mg "call_end" s_call_end ["calls", "at"]) : Ca P w K mg base CX0 1 "call_end" (spCallEnd K) := by
  have sc := sc_call_end
  refine D.ca sc (fun vs H Q E h => ?_) (fun f cdv Ar outer s H vs Q E hr h => ?_)
  · obtain ⟨a, ns, at_, k, rest, rfl, _⟩ := h
    rfl
  · obtain ⟨a, ns, at_, k, rest, rfl, ha, hd, q⟩ := h
    refine ⟨_, (pss_cons (ps_if (pt_cmpR op_eq (pe_ix ix_list (pv 0) (pv 1) (fun _ _ => rfl)) (pe_gi rfl T.gLOAD) (nomark _)) (pss_one (ps_ret (pe_op op_add (pe_op op_add (pv 1) pe_int) (pe_ix ix_list (pv 0) (pe_op op_add (pv 1) pe_int) (fun _ _ => rfl))))) pss_nil)
      (pss_one (ps_ret (pe_op op_add (pe_op op_add (pv 1) pe_int) (pe_ix ix_num (pe_gr rfl T.gARGUMENT_COUNTS) (pe_ix ix_list (pv 0) (pv 1) (fun _ _ => rfl)) (fun _ _ => rfl)))))), ?_⟩
    cases hk : isLoad k with
    | true =>
      cases k with
      | load b =>
        have g0 : ns[at_]? = some 0 := drop_at (j := 0) hd rfl
        have g1 : ns[at_ + 1]? = some (b.length : Int) := drop_at (j := 1) hd rfl
        refine ⟨_, rfl, _, rfl, a, _, _, _, rfl, rfl, ha, atI_nat (map_at g0), rfl, _, rfl, iteT ?_⟩
        refine ⟨_, rfl, _, _, rfl, rfl, _, rfl, _, rfl, _, _, rfl, rfl, a, _, ((at_ + 1 : Nat) : Int), _, rfl, rfl, ha, atI_nat (map_at g1), _, _, rfl, rfl, ?_⟩
        have e : ((at_ : Nat) : Int) + 2 + (b.length : Int) = ((at_ + (rowOf (.load b)).length : Nat) : Int) := by
          show _ = ((at_ + ((bytesI b).length + 1 + 1) : Nat) : Int)
          unfold bytesI
          rw [List.length_map]
          omega
        show Q (V.int (((at_ : Nat) : Int) + 2 + (b.length : Int))) H
        rw [e]
        exact q
      | _ => cases hk
    | false =>
      obtain ⟨p, r, hr1, hr2, hcp⟩ := count_row hk
      rw [hr1] at hd q
      have g0 : ns[at_]? = some p := drop_at (j := 0) hd rfl
      refine ⟨_, rfl, _, rfl, a, _, _, _, rfl, rfl, ha, atI_nat (map_at g0), rfl, _, rfl, ?_⟩
      rw [decide_eq_false (show ¬ V.int p = V.int 0 from fun z => hr2 (by injection z))]
      obtain ⟨cf, hN, hcf⟩ := T.cnt
      obtain ⟨u, hu, ru⟩ := hcf p _ hcp
      refine iteF ⟨_, rfl, _, _, rfl, rfl, _, rfl, _, rfl, a, _, _, _, rfl, rfl, ha, atI_nat (map_at g0), A.cnt, p, cf, u, _, rfl, rfl, hN, hu, ru, _, _, rfl, rfl, ?_⟩
      have e : ((at_ : Nat) : Int) + 1 + (r.length : Int) = ((at_ + (p :: r).length : Nat) : Int) := by
        rw [List.length_cons]
        omega
      show Q (V.int (((at_ : Nat) : Int) + 1 + (r.length : Int))) H
      rw [e]
      exact q
/-! ### answers -/
def playP : Option Vaskya.Sheet → List Vaskya.Call → List (List Int)
  | _, [] => []
  | o, k :: r => (stepP o k).2 :: playP (stepP o k).1 r
def toldP (l : List (List Int)) : List Int := (l.map cnt).flatten
def rowsP (ks : List Vaskya.Call) : List Int := (ks.map rowOf).flatten
def spAnswers (K : PySem.W.Frag) : Sp := fun vs H Q _ => ∃ (a : Addr) (ks : List Vaskya.Call), vs = [.ref a] ∧ SqL K H a ((rowsP ks).map V.int) ∧ (toldP (playP none ks)).length ≤ 10000000 ∧
  ∀ H' D, H' D = some (.lst ((toldP (playP none ks)).map V.int)) → Q (.ref D) H'
abbrev s_answers : Stmt := top 82
theorem sc_answers : FnScope ["calls", "holder", "told", "at", "past"] ["calls"] (defScope s_answers) := ⟨rfl, rfl, rfl, by decide +kernel, rfl, by decide +kernel, by decide +kernel⟩
theorem c_answers (T : Txt K mg A) (MHolder : Ma P w K mg base 1 "Holder" A.hol (spHolInit A)) (c_call_end : Ca P w K mg base CX0 1 "call_end" (spCallEnd K)) (c_counted : Ca P w K mg base CX0 1 "counted" spCounted) (c_answer : Me P w K mg base CX0 12 A.hol "answer" (spAnswer A))
    {f : Addr} {fd : FuncData} (F : Fun K "answers" "answers" s_answers f fd) : FnOk P w K mg base CX0 13 f fd ["calls"] (spAnswers K) := by
  have sc := sc_answers
  refine F.ok sc (fun vs H Q E h => ?_) (fun cdv Ar outer s H vs Q E hr h => ?_)
  · obtain ⟨a, ks, rfl, _⟩ := h
    rfl
  · obtain ⟨a, ks, rfl, ha, hlen, q⟩ := h
    refine ⟨_, (pss_cons (ps_set (i := 1) sc.nd rfl (Or.inl rfl) (pe_ma0 MHolder hr))
      (pss_cons (ps_set (i := 2) sc.nd rfl (Or.inl rfl) (pe_lst pa_nil))
      (pss_cons (ps_set (i := 3) sc.nd rfl (Or.inl rfl) pe_int)
      (pss_cons (ps_while PassesOwn.never (pt_cmpR op_lt (pv 3) (pe_callB call_len_seq (by rfl) T.len PySem.boot_len (pa_cons (pv 0) pa_nil)) (nomark _)) (pss_cons (ps_set (i := 4) sc.nd rfl (Or.inl rfl) (pe_ca c_call_end hr (pa_cons (pv 0) (pa_cons (pv 3) pa_nil))))
      (pss_cons (ps_expr (pe_bm PySem.F.plainAttrs_list PySem.F.slot_list_extend PySem.F.type_list_extend mt_extend (pv 2) (pa_cons (pe_ca c_counted hr (pa_cons (pe_mx c_answer T.cH hr pass0 (pv 1) (pa_cons (pe_slice sl_list (pv 0) (po_some (pv 3)) (po_some (pv 4))) pa_nil)) pa_nil)) pa_nil)))
      (pss_one (ps_set (i := 3) sc.nd rfl (Or.inl rfl) (pv 4))))))
      (pss_one (ps_ret (pv 2))))))), ?_⟩
    -- holder = Holder()
    refine fun h dx nh nd ne => ⟨h, dx, rfl, upd_same, rfl, ?_⟩
    have sI : Same H (newI H h dx A.hol [("held", .non)]) := newI_same nh nd
    -- told = []; at = 0
    refine ⟨Nat.zero_le _, fun t nt => ?_⟩
    have st : Same (newI H h dx A.hol [("held", .non)]) (upd (newI H h dx A.hol [("held", .non)]) t (.lst [])) := same_new nt
    have nht : h ≠ t := ne_of_none newI_at nt
    have s0 := Same.trans sI st
    have nt0 : H t = none := sI.free nt
    -- the loop
    refine ⟨fun mm σ H' => ∃ (told : List Int) (o : Option Vaskya.Sheet) (rest : List Vaskya.Call) (at_ : Nat) (v4 : Option V), σ = [some (.ref a), some (.ref h), some (.ref t), some (nV at_), v4] ∧ Same H H' ∧ H' t = some (.lst (told.map V.int)) ∧ HoldAt A (fun q => q = h ∨ q = t) H' h o ∧
      told ++ toldP (playP o rest) = toldP (playP none ks) ∧ (rowsP ks).drop at_ = rowsP rest ∧ at_ + (rowsP rest).length = (rowsP ks).length ∧ mm = rest.length,
      ⟨_, [], none, ks, 0, none, rfl, s0, upd_same, ⟨.inl rfl, dx, .non, by rw [upd_ne nht]; exact newI_at, rfl⟩, rfl, rfl, Nat.zero_add _, rfl⟩, ?_⟩
    rintro mm σ H' ⟨told, o, rest, at_, v4, rfl, sm, ht, hh, hE, hdrop, hat, rfl⟩
    have ha' := sm.seq ha
    refine ⟨_, rfl, _, rfl, a, _, rfl, .inl ha', (at_ : Int), _, rfl, rfl, _, rfl, ?_⟩
    rw [List.length_map]
    cases rest with
    | nil =>
      have e0 : at_ = (rowsP ks).length := hat
      rw [decide_eq_false (show ¬ (at_ : Int) < ((rowsP ks).length : Int) by omega)]
      refine iteF ⟨_, rfl, ?_⟩
      have e1 : told = toldP (playP none ks) := by
        rw [← hE]
        exact (List.append_nil told).symm
      rw [e1] at ht
      exact q H' t ht
    | cons k r =>
      have hrow : rowsP (k :: r) = rowOf k ++ rowsP r := rfl
      have hk1 := row_pos k
      rw [hrow] at hdrop hat
      rw [List.length_append] at hat
      rw [decide_eq_true (show (at_ : Int) < ((rowsP ks).length : Int) by omega)]
      refine iteT ⟨fun σ' H' => ∃ mm, mm < (k :: r).length ∧ ∃ (told : List Int) (o : Option Vaskya.Sheet) (rest : List Vaskya.Call) (at_ : Nat) (v4 : Option V), σ' = [some (.ref a), some (.ref h), some (.ref t), some (nV at_), v4] ∧ Same H H' ∧ H' t = some (.lst (told.map V.int)) ∧ HoldAt A (fun q => q = h ∨ q = t) H' h o ∧
        told ++ toldP (playP o rest) = toldP (playP none ks) ∧ (rowsP ks).drop at_ = rowsP rest ∧ at_ + (rowsP rest).length = (rowsP ks).length ∧ mm = rest.length, fun _ _ z => z, ?_⟩
      -- past = call_end(calls, at)
      refine ⟨_, rfl, _, rfl, a, _, at_, k, rowsP r, rfl, ha', hdrop, ?_⟩
      -- told.extend(counted(holder.answer(calls[at:past])))
      obtain ⟨_, dh, vh, hh1, hh2⟩ := id hh
      refine ⟨_, rfl, .inl ⟨rfl, _, SqL.of ht⟩, _, rfl, h, dh, _, rfl, hh1, lh_no, ?_⟩
      refine ⟨_, rfl, _, rfl, (at_ : Int), rfl, _, rfl, ((at_ + (rowOf k).length : Nat) : Int), rfl, a, _, rfl, ha', fun c nc => ?_⟩
      rw [cut_mid (by rw [List.length_map]; omega), ← List.map_drop, ← List.map_take, hdrop, List.take_left]
      have sc1 : Same H' (upd H' c (.lst ((rowOf k).map V.int))) := same_new nc
      have dS : Dom (fun q => q = h ∨ q = t) H' := fun x hx e => by
        rcases hx with rfl | rfl
        · rw [hh1] at e
          cases e
        · rw [ht] at e
          cases e
      refine ⟨h, c, k, o, (fun q => q = h ∨ q = t), rfl, dS.mono sc1, hh.same sc1, upd_same, fun H2 D s2 nD hD1 hD2 => ?_⟩
      have s12 : SameR h H' H2 := (Same.b sc1).trans s2
      have hEr : told ++ (cnt (stepP o k).2 ++ toldP (playP (stepP o k).1 r)) = toldP (playP none ks) := hE
      have hsz : told.length + ((stepP o k).2.length + 1) ≤ 10000000 := by
        have := congrArg List.length hEr
        rw [List.length_append, List.length_append, show (cnt (stepP o k).2).length = (stepP o k).2.length + 1 from rfl] at this
        omega
      refine ⟨D, _, rfl, hD2, by omega, fun H3 E3 s3 nE3 hE3 => ?_⟩
      have s13 : SameR h H' H3 := s12.trans (Same.b s3)
      have ht3 : H3 t = some (.lst (told.map V.int)) := s13 _ _ nht.symm ht
      refine ⟨t, E3, _, _, rfl, rfl, ht3, hE3, ?_, ?_⟩
      · rw [List.length_map, List.length_map, sizeLine_eq, show (cnt (stepP o k).2).length = (stepP o k).2.length + 1 from rfl]
        omega
      · have sH : Same H H3 := fun b u e => s13 b u (ne_of_none e nh) (sm b u e)
        refine ⟨_, rfl, r.length, Nat.lt_succ_self _, told ++ cnt (stepP o k).2, (stepP o k).1, r, at_ + (rowOf k).length, _, rfl, same_put sH nt0, ?_, (hD1.same s3).write (.inr rfl) nht, ?_, ?_, ?_, rfl⟩
        · rw [upd_same, List.map_append]
        · rw [List.append_assoc]
          exact hEr
        · rw [← List.drop_drop, hdrop, List.drop_left]
        · omega
end
end Ub
/-! Plain mathematics: the answers against the specification. -/
namespace Ub
open VaskyBase (Bytes word)
open Vaskya (Sheet)
/-! ### the one form -/
theorem lineM_is (ms : List Vaskya.Measure) : lineM ms = Vaskya.line (word "measures " ++ (Vaskya.commas (ms.map Vaskya.showMeasure) ++ word " ;")) := by
  unfold lineM Vaskya.line
  simp only [List.append_assoc]
theorem lineI_is (i : Vaskya.Item) : lineI i = Vaskya.showItem i := by
  unfold lineI Vaskya.showItem Vaskya.line
  simp only [List.append_assoc]
theorem form_is (s : Sheet) : formN s = Vaskya.shown s := by
  unfold formN Vaskya.shown
  rw [lineM_is, List.flatMap_def]
  congr 2
  refine List.map_congr_left fun i _ => lineI_is i
/-! ### answers as whole numbers -/
theorem nats_is (ns : List Nat) : natsI ns = Vaskya.nats ns := rfl
theorem list_is (ns : List Nat) : cnt (natsI ns) = VaskyaNeutral.encode (Vaskya.listAnswer ns) := by
  show ((natsI ns).length : Int) :: natsI ns = ((ns.length : Int)) :: Vaskya.nats ns
  rw [nats_is]
  show ((ns.map _).length : Int) :: _ = _
  rw [List.length_map]
theorem cntN (ns : List Nat) : cnt (natsI ns) = (ns.length : Int) :: natsI ns := by
  show ((ns.map _).length : Int) :: _ = _
  rw [List.length_map]
theorem cntB (bs : Bytes) : cnt (bytesI bs) = (bs.length : Int) :: bytesI bs := by
  show ((bs.map _).length : Int) :: _ = _
  rw [List.length_map]
theorem good_inj {ms : List Vaskya.Measure} {xs ys : List Int} (h1 : xs.length = ms.length) (h2 : ys.length = ms.length) : Vaskya.goodOf ms xs = Vaskya.goodOf ms ys ↔ xs = ys := by
  constructor
  · intro h
    refine List.ext_getElem? fun k => (good_eq h1 h2 k).mp ?_
    rw [h]
  · intro h
    rw [h]
theorem idx_yes {n : Nat} {i : Int} (h : okI n i = true) : VaskyBase.index i n = some i.toNat := if_pos (of_decide_eq_true h)
theorem idx_no {n : Nat} {i : Int} (h : okI n i = false) : VaskyBase.index i n = none := if_neg (of_decide_eq_false h)
theorem with_yes {s : Sheet} {i : Int} (h : okI s.items.length i = true) (f : Nat → VaskyBase.Answer) : Vaskya.withItem s i f = f i.toNat := by
  unfold Vaskya.withItem
  rw [idx_yes h]
theorem with_no {s : Sheet} {i : Int} (h : okI s.items.length i = false) (f : Nat → VaskyBase.Answer) : Vaskya.withItem s i f = VaskyBase.one (-2) := by
  unfold Vaskya.withItem
  rw [idx_no h]
theorem looked_is {s : Sheet} (g : Good s) (k : Vaskya.Call) (hk : isLoad k = false) : VaskyaNeutral.encode (Vaskya.looked s k) = aboutP s k := by
  cases k with
  | load b => cases hk
  | shown =>
    show _ = cnt (bytesI (formN s))
    rw [cntB, form_is]
    rfl
  | beats i j =>
    show VaskyaNeutral.encode (Vaskya.withItem s i fun x => Vaskya.withItem s j fun y => VaskyBase.one (Vaskya.relation ((Vaskya.rows s).getD x []) ((Vaskya.rows s).getD y []) : Int)) = cmpP s i j
    unfold cmpP
    cases hi : okI s.items.length i with
    | false =>
      rw [with_no hi, if_neg (fun z => by cases z.1)]
      rfl
    | true =>
      rw [with_yes hi]
      cases hj : okI s.items.length j with
      | false =>
        rw [with_no hj, if_neg (fun z => by cases z.2)]
        rfl
      | true =>
        rw [with_yes hj, if_pos ⟨rfl, rfl⟩]
        obtain ⟨ni, _⟩ := okI_nat hi
        obtain ⟨nj, _⟩ := okI_nat hj
        show [((Vaskya.relation ((Vaskya.rows s).getD i.toNat []) ((Vaskya.rows s).getD j.toNat []) : Nat) : Int)] = _
        unfold Vaskya.relation
        rw [← beat_spec g ni nj, ← beat_spec g nj ni]
        by_cases h1 : beatN s i.toNat j.toNat = true
        · rw [if_pos h1, if_pos h1]
          rfl
        · rw [if_neg h1, if_neg h1]
          by_cases h2 : beatN s j.toNat i.toNat = true
          · rw [if_pos h2, if_pos h2]
            rfl
          · rw [if_neg h2, if_neg h2, rows_getD ni, rows_getD nj]
            by_cases h3 : valsOf s i.toNat = valsOf s j.toNat
            · rw [if_pos ((good_inj (vals_len g ni) (vals_len g nj)).mpr h3), if_pos (decide_eq_true h3)]
              rfl
            · rw [if_neg (fun z => h3 ((good_inj (vals_len g ni) (vals_len g nj)).mp z)), if_neg (fun z => h3 (of_decide_eq_true z))]
              rfl
  | best =>
    show VaskyaNeutral.encode (Vaskya.listAnswer (Vaskya.unbeaten (Vaskya.rows s))) = cnt (natsI (unbG (beatN s) (List.range s.items.length)))
    rw [list_is, unb_is g fun i hi => mem_range hi]
    unfold Vaskya.unbeaten
    rw [rows_len]
  | layers =>
    show ((Vaskya.layers (Vaskya.rows s)).length : Int) :: (Vaskya.layers (Vaskya.rows s)).flatMap (fun u => Vaskya.nats (u.length :: u)) = layP s
    unfold layP
    rw [layers_is g, List.flatMap_def]
    congr 2
    refine List.map_congr_left fun u _ => ?_
    rw [cntN]
    rfl
  | beaters i =>
    show VaskyaNeutral.encode (Vaskya.withItem s i _) = (if okI s.items.length i = true then bersP s i.toNat else [-2])
    cases hi : okI s.items.length i with
    | false =>
      rw [with_no hi, if_neg Bool.false_ne_true]
      rfl
    | true =>
      rw [with_yes hi, if_pos rfl]
      obtain ⟨ni, _⟩ := okI_nat hi
      unfold bersP
      rw [beaters_is g ni, reasons_is g ni, cntN, cntN]
      show _ :: Vaskya.nats (Vaskya.beaters (Vaskya.rows s) i.toNat ++ ((Vaskya.reasons (Vaskya.rows s) i.toNat).length :: Vaskya.reasons (Vaskya.rows s) i.toNat)) = _
      unfold Vaskya.nats natsI
      rw [List.map_append]
      rfl
  | beaten i =>
    show VaskyaNeutral.encode (Vaskya.withItem s i _) = (if okI s.items.length i = true then cnt (natsI (beatenN s i.toNat)) else [-2])
    cases hi : okI s.items.length i with
    | false =>
      rw [with_no hi, if_neg Bool.false_ne_true]
      rfl
    | true =>
      rw [with_yes hi, if_pos rfl]
      obtain ⟨ni, _⟩ := okI_nat hi
      rw [beaten_is g ni, list_is]
  | gain i m =>
    show VaskyaNeutral.encode (Vaskya.withItem s i fun x => (match VaskyBase.index m s.ms.length with | none => VaskyBase.one (-3) | some k => VaskyBase.one (Vaskya.gainTo (Vaskya.rows s) x k))) = (if okI s.items.length i = true then gainP s i.toNat m else [-2])
    cases hi : okI s.items.length i with
    | false =>
      rw [with_no hi, if_neg Bool.false_ne_true]
      rfl
    | true =>
      rw [with_yes hi, if_pos rfl]
      obtain ⟨ni, _⟩ := okI_nat hi
      unfold gainP
      cases hm : okI s.ms.length m with
      | false =>
        rw [idx_no hm, if_neg Bool.false_ne_true]
        rfl
      | true =>
        rw [idx_yes hm, if_pos rfl, gain_is g ni (okI_nat hm).1]
        rfl
  | item i =>
    show VaskyaNeutral.encode (Vaskya.withItem s i fun x => (match s.items[x]? with | none => VaskyBase.one (-2) | some y => ⟨(Vaskya.layerOf (Vaskya.rows s) x : Int), VaskyBase.textRow y.name ++ y.vs⟩)) = (if okI s.items.length i = true then itemP s i.toNat else [-2])
    cases hi : okI s.items.length i with
    | false =>
      rw [with_no hi, if_neg Bool.false_ne_true]
      rfl
    | true =>
      rw [with_yes hi, if_pos rfl]
      obtain ⟨ni, _⟩ := okI_nat hi
      unfold itemP
      rw [valsOf_at (List.getElem?_eq_getElem ni), List.getElem?_eq_getElem ni, layer_is g]
      show _ :: (VaskyBase.textRow s.items[i.toNat].name ++ s.items[i.toNat].vs) = _ :: (cnt (bytesI s.items[i.toNat].name) ++ s.items[i.toNat].vs)
      rw [cntB]
      rfl
/-! ### steps -/
def GoodO (o : Option Sheet) : Prop := ∀ s, o = some s → Good s
theorem step_is {o : Option Sheet} (g : GoodO o) (k : Vaskya.Call) : (Vaskya.step o k).1 = (stepP o k).1 ∧ VaskyaNeutral.encode (Vaskya.step o k).2 = (stepP o k).2 ∧ GoodO (stepP o k).1 := by
  cases hk : isLoad k with
  | true =>
    cases k with
    | load b =>
      show (match Vaskya.read b with | .ok s => (some s, (⟨1, Vaskya.nats [s.ms.length, s.items.length]⟩ : VaskyBase.Answer)) | .error f => (o, VaskyBase.faulty f)).1 = (loadP o b).1 ∧ VaskyaNeutral.encode (match Vaskya.read b with | .ok s => (some s, (⟨1, Vaskya.nats [s.ms.length, s.items.length]⟩ : VaskyBase.Answer)) | .error f => (o, VaskyBase.faulty f)).2 = (loadP o b).2 ∧ GoodO (loadP o b).1
      unfold loadP
      cases hr : Vaskya.read b with
      | error f => exact ⟨rfl, rfl, g⟩
      | ok s =>
        refine ⟨rfl, rfl, fun s' e => ?_⟩
        cases e
        exact read_good hr
    | _ => cases hk
  | false =>
    rw [stepP_about hk]
    cases o with
    | none =>
      have e : Vaskya.step none k = (none, VaskyBase.one (-1)) := by
        cases k with
        | load b => cases hk
        | _ => rfl
      rw [e]
      exact ⟨rfl, rfl, g⟩
    | some s =>
      have e : Vaskya.step (some s) k = (some s, Vaskya.looked s k) := by
        cases k with
        | load b => cases hk
        | _ => rfl
      rw [e]
      exact ⟨rfl, looked_is (g s rfl) k hk, g⟩
/-! ### the list of calls -/
def rawOf : Vaskya.Call → List (List Int)
  | .load b => [[0], bytesI b]
  | k => [rowOf k]
theorem bytesOf_I (b : Bytes) : VaskyaNeutral.bytesOf (bytesI b) = b := by
  unfold VaskyaNeutral.bytesOf bytesI
  rw [List.map_map]
  have : ((fun z : Int => UInt8.ofNat z.toNat) ∘ fun c : UInt8 => (c.toNat : Int)) = id := by
    funext c
    show UInt8.ofNat ((c.toNat : Int)).toNat = c
    rw [Int.toNat_natCast, UInt8.ofNat_toNat]
  rw [this, List.map_id]
theorem bytes_all (b : Bytes) : NeutralIO.bytes (bytesI b) = true := by
  unfold NeutralIO.bytes bytesI
  rw [List.all_map, List.all_eq_true]
  intro c _
  have h := UInt8.toNat_lt c
  show (decide (0 ≤ (c.toNat : Int)) && decide ((c.toNat : Int) ≤ 255)) = true
  rw [decide_eq_true (Int.natCast_nonneg _), decide_eq_true (by omega)]
  rfl
theorem callOf_raw (k : Vaskya.Call) : VaskyaNeutral.callOf (rawOf k) = some k := by
  cases k with
  | load b =>
    show (if NeutralIO.bytes (bytesI b) = true then some (Vaskya.Call.load (VaskyaNeutral.bytesOf (bytesI b))) else none) = _
    rw [if_pos (bytes_all b), bytesOf_I]
  | _ => rfl
theorem I_bytesOf {x : List Int} (h : ∀ z ∈ x, 0 ≤ z ∧ z < 256) : bytesI (VaskyaNeutral.bytesOf x) = x := by
  unfold VaskyaNeutral.bytesOf bytesI
  rw [List.map_map]
  have : ∀ z ∈ x, ((fun c : UInt8 => (c.toNat : Int)) ∘ fun z : Int => UInt8.ofNat z.toNat) z = id z := fun z hz => by
    obtain ⟨h1, h2⟩ := h z hz
    show ((UInt8.ofNat z.toNat).toNat : Int) = z
    rw [UInt8.toNat_ofNat', Nat.mod_eq_of_lt (show z.toNat < 2 ^ 8 by omega)]
    omega
  rw [List.map_congr_left this, List.map_id]
theorem whole_id (c : List (List Int)) : PyVaskya.whole c = c := by
  unfold PyVaskya.whole
  split <;> rfl
theorem played_is : ∀ (ks : List Vaskya.Call) (o : Option Sheet), GoodO o → PyFlat.played VaskyaNeutral.step o (ks.map rawOf) = playP o ks
  | [], _, _ => rfl
  | k :: r, o, g => by
    obtain ⟨h1, h2, h3⟩ := step_is g k
    have e : VaskyaNeutral.step o (rawOf k) = ((stepP o k).1, (stepP o k).2) := by
      unfold VaskyaNeutral.step
      rw [callOf_raw]
      show ((Vaskya.step o k).1, VaskyaNeutral.encode (Vaskya.step o k).2) = _
      rw [h1, h2]
    show (VaskyaNeutral.step o (rawOf k)).2 :: PyFlat.played VaskyaNeutral.step (VaskyaNeutral.step o (rawOf k)).1 (r.map rawOf) = _
    rw [e]
    show (stepP o k).2 :: PyFlat.played VaskyaNeutral.step (stepP o k).1 (r.map rawOf) = (stepP o k).2 :: playP (stepP o k).1 r
    rw [played_is r _ h3]
theorem told_is (l : List (List Int)) : PyFlat.told l = toldP l := by
  unfold PyFlat.told toldP
  rw [List.flatMap_def]
  rfl
/-- one call -/
theorem call_is {p : Int} {r : List Int} {ct : List (List Int) × List Int} (n k : Nat) (e : PyVaskya.shape p = some (n, k)) (h : PyFlat.call PyVaskya.shape (p :: r) = some ct) : n ≤ r.length ∧ ∃ xs t, PyFlat.rows k (r.drop n) = some (xs, t) ∧ ct = ((p :: r.take n) :: xs, t) := by
  have h1 : (match PyVaskya.shape p with | none => none | some (n, k) => if r.length < n then none else match PyFlat.rows k (r.drop n) with | none => none | some (xs, t) => some ((p :: r.take n) :: xs, t)) = some ct := h
  rw [e] at h1
  have h2 : (if r.length < n then none else match PyFlat.rows k (r.drop n) with | none => none | some (xs, t) => some ((p :: r.take n) :: xs, t)) = some ct := h1
  by_cases hl : r.length < n
  · rw [if_pos hl] at h2
    cases h2
  · rw [if_neg hl] at h2
    refine ⟨Nat.le_of_not_lt hl, ?_⟩
    cases hr : PyFlat.rows k (r.drop n) with
    | none => rw [hr] at h2; cases h2
    | some xt =>
      obtain ⟨xs, t⟩ := xt
      rw [hr] at h2
      exact ⟨xs, t, rfl, (Option.some.inj h2).symm⟩
theorem call_0 {p : Int} {r : List Int} {c : List (List Int)} {t : List Int} (k : Vaskya.Call) (e : PyVaskya.shape p = some (0, 0)) (h : PyFlat.call PyVaskya.shape (p :: r) = some (c, t)) (e1 : rawOf k = [[p]]) (e2 : rowOf k = [p]) : ∃ k, c = rawOf k ∧ p :: r = rowOf k ++ t := by
  obtain ⟨_, xs, t2, hr, hc⟩ := call_is 0 0 e h
  cases hr
  cases hc
  exact ⟨k, e1.symm, by rw [e2]; rfl⟩
theorem call_1 {p : Int} {r : List Int} {c : List (List Int)} {t : List Int} (k : Int → Vaskya.Call) (e : PyVaskya.shape p = some (1, 0)) (h : PyFlat.call PyVaskya.shape (p :: r) = some (c, t)) (e1 : ∀ i, rawOf (k i) = [[p, i]]) (e2 : ∀ i, rowOf (k i) = [p, i]) : ∃ k, c = rawOf k ∧ p :: r = rowOf k ++ t := by
  obtain ⟨hl, xs, t2, hr, hc⟩ := call_is 1 0 e h
  cases r with
  | nil => exact absurd hl (by decide)
  | cons i r2 =>
    cases hr
    cases hc
    exact ⟨k i, (e1 i).symm, by rw [e2]; rfl⟩
theorem call_2 {p : Int} {r : List Int} {c : List (List Int)} {t : List Int} (k : Int → Int → Vaskya.Call) (e : PyVaskya.shape p = some (2, 0)) (h : PyFlat.call PyVaskya.shape (p :: r) = some (c, t)) (e1 : ∀ i j, rawOf (k i j) = [[p, i, j]]) (e2 : ∀ i j, rowOf (k i j) = [p, i, j]) : ∃ k, c = rawOf k ∧ p :: r = rowOf k ++ t := by
  obtain ⟨hl, xs, t2, hr, hc⟩ := call_is 2 0 e h
  match r, hl, hr, hc with
  | [], hl, _, _ => exact absurd hl (by decide)
  | [i], hl, _, _ => exact absurd hl (by simp)
  | i :: j :: r2, _, hr, hc =>
    cases hr
    cases hc
    exact ⟨k i j, (e1 i j).symm, by rw [e2]; rfl⟩
theorem call_l {r : List Int} {c : List (List Int)} {t : List Int} (h : PyFlat.call PyVaskya.shape (0 :: r) = some (c, t)) (ha : VaskyaNeutral.asked1 c = true) : ∃ k, c = rawOf k ∧ 0 :: r = rowOf k ++ t := by
  obtain ⟨_, xs, t2, hr, hc⟩ := call_is 0 1 rfl h
  rw [List.drop_zero] at hr
  cases r with
  | nil => cases hr
  | cons n r2 =>
    by_cases hn : 0 ≤ n ∧ n.toNat ≤ r2.length
    · have er : PyFlat.rows 1 (n :: r2) = some ([r2.take n.toNat], r2.drop n.toNat) := by
        show (match (if 0 ≤ n ∧ n.toNat ≤ r2.length then some (r2.take n.toNat, r2.drop n.toNat) else none) with | none => none | some (x, s) => some ([x], s)) = _
        rw [if_pos hn]
      rw [er] at hr
      cases hr
      cases hc
      have ha' : ((r2.take n.toNat).all (fun (z : Int) => VaskyaNeutral.natural z 8) && decide ((r2.take n.toNat).length ≤ 8192)) = true := ha
      rw [Bool.and_eq_true, List.all_eq_true] at ha'
      have hz : ∀ z ∈ r2.take n.toNat, 0 ≤ z ∧ z < 256 := fun z hz => by
        have := ha'.1 z hz
        unfold VaskyaNeutral.natural at this
        rw [Bool.and_eq_true, decide_eq_true_iff, decide_eq_true_iff] at this
        exact ⟨this.1, by have := this.2; omega⟩
      have hL : ((VaskyaNeutral.bytesOf (r2.take n.toNat)).length : Int) = n := by
        unfold VaskyaNeutral.bytesOf
        rw [List.length_map, List.length_take, Nat.min_eq_left hn.2]
        omega
      refine ⟨.load (VaskyaNeutral.bytesOf (r2.take n.toNat)), ?_, ?_⟩
      · show _ = [[0], bytesI (VaskyaNeutral.bytesOf (r2.take n.toNat))]
        rw [I_bytesOf hz]
        rfl
      · show _ = 0 :: ((VaskyaNeutral.bytesOf (r2.take n.toNat)).length : Int) :: (bytesI (VaskyaNeutral.bytesOf (r2.take n.toNat)) ++ r2.drop n.toNat)
        rw [I_bytesOf hz, hL, List.take_append_drop]
    · have er : PyFlat.rows 1 (n :: r2) = none := by
        show (match (if 0 ≤ n ∧ n.toNat ≤ r2.length then some (r2.take n.toNat, r2.drop n.toNat) else none) with | none => none | some (x, s) => some ([x], s)) = _
        rw [if_neg hn]
      rw [er] at hr
      cases hr
theorem call_ok {p : Int} {r : List Int} {c : List (List Int)} {t : List Int} (h : PyFlat.call PyVaskya.shape (p :: r) = some (c, t)) (ha : VaskyaNeutral.asked1 c = true) : ∃ k, c = rawOf k ∧ p :: r = rowOf k ++ t := by
  by_cases h0 : p = 0
  · subst h0
    exact call_l h ha
  by_cases h1 : p = 1
  · subst h1
    exact call_0 .shown rfl h rfl rfl
  by_cases h2 : p = 2
  · subst h2
    exact call_2 .beats rfl h (fun _ _ => rfl) (fun _ _ => rfl)
  by_cases h3 : p = 3
  · subst h3
    exact call_0 .best rfl h rfl rfl
  by_cases h4 : p = 4
  · subst h4
    exact call_0 .layers rfl h rfl rfl
  by_cases h5 : p = 5
  · subst h5
    exact call_1 .beaters rfl h (fun _ => rfl) (fun _ => rfl)
  by_cases h6 : p = 6
  · subst h6
    exact call_1 .beaten rfl h (fun _ => rfl) (fun _ => rfl)
  by_cases h7 : p = 7
  · subst h7
    exact call_2 .gain rfl h (fun _ _ => rfl) (fun _ _ => rfl)
  by_cases h8 : p = 8
  · subst h8
    exact call_1 .item rfl h (fun _ => rfl) (fun _ => rfl)
  have e : PyVaskya.shape p = none := by
    unfold PyVaskya.shape
    rw [if_neg h0, if_neg h1, if_neg h2, if_neg h3, if_neg h4, if_neg h5, if_neg h6, if_neg h7, if_neg h8]
  have h1 : (match PyVaskya.shape p with | none => none | some (n, k) => if r.length < n then none else match PyFlat.rows k (r.drop n) with | none => none | some (xs, t) => some ((p :: r.take n) :: xs, t)) = some (c, t) := h
  rw [e] at h1
  cases h1
theorem calls_ok : ∀ (f : Nat) (l : List Int) (raw : List (List (List Int))), PyFlat.calls PyVaskya.shape f l = some raw → raw.all VaskyaNeutral.asked1 = true → ∃ ks, raw = ks.map rawOf ∧ l = rowsP ks
  | f, [], raw, h, _ => by
    have h' : (some [] : Option (List (List (List Int)))) = some raw := by
      cases f <;> exact h
    cases h'
    exact ⟨[], rfl, rfl⟩
  | 0, p :: r, raw, h, _ => by cases h
  | f + 1, p :: r, raw, h, ha => by
    have h' : (match PyFlat.call PyVaskya.shape (p :: r) with | none => none | some (c, t) => match PyFlat.calls PyVaskya.shape f t with | none => none | some cs => some (c :: cs)) = some raw := h
    cases hc : PyFlat.call PyVaskya.shape (p :: r) with
    | none => rw [hc] at h'; cases h'
    | some ct =>
      obtain ⟨c, t⟩ := ct
      rw [hc] at h'
      cases hr : PyFlat.calls PyVaskya.shape f t with
      | none =>
        have h2 : (match PyFlat.calls PyVaskya.shape f t with | none => none | some cs => some (c :: cs)) = some raw := h'
        rw [hr] at h2
        cases h2
      | some cs =>
        have h2 : (match PyFlat.calls PyVaskya.shape f t with | none => none | some cs => some (c :: cs)) = some raw := h'
        rw [hr] at h2
        have h3 : c :: cs = raw := Option.some.inj h2
        rw [← h3, List.all_cons, Bool.and_eq_true] at ha
        obtain ⟨k, k1, k2⟩ := call_ok hc ha.1
        obtain ⟨ks, i1, i2⟩ := calls_ok f t cs hr ha.2
        refine ⟨k :: ks, ?_, ?_⟩
        · rw [← h3, k1, i1]
          rfl
        · rw [k2, i2]
          rfl
/-- **what is asked, what is due** -/
theorem asked_ok {ns : List Int} (h : PyVaskya.answers_asked ns = true) : ∃ ks, ns = rowsP ks ∧ PyVaskya.answers ns = toldP (playP none ks) ∧ (toldP (playP none ks)).length ≤ 10000000 := by
  unfold PyVaskya.answers_asked at h
  cases hr : PyFlat.calls PyVaskya.shape ns.length ns with
  | none => rw [hr] at h; cases h
  | some raw =>
    rw [hr] at h
    have h' : (!raw.isEmpty && PyFlat.atMost 60 raw && PyInside.calls PyVaskya.bound raw && VaskyaNeutral.asked (raw.map PyVaskya.whole) && PyFlat.short 10000000 (PyVaskya.answers ns)) = true := h
    have hw : raw.map PyVaskya.whole = raw := by
      rw [List.map_congr_left (fun c _ => whole_id c), List.map_id']
    rw [hw, Bool.and_eq_true, Bool.and_eq_true] at h'
    have ha := h'.1.2
    unfold VaskyaNeutral.asked at ha
    rw [Bool.and_eq_true] at ha
    obtain ⟨ks, k1, k2⟩ := calls_ok _ _ _ hr ha.1
    have e : PyVaskya.answers ns = toldP (playP none ks) := by
      unfold PyVaskya.answers PyVaskya.calls
      rw [hr]
      show PyFlat.told (PyFlat.played VaskyaNeutral.step VaskyaNeutral.start (raw.map PyVaskya.whole)) = _
      rw [hw, told_is, k1]
      congr 1
      exact played_is ks none fun s z => by cases z
    refine ⟨ks, k2, e, ?_⟩
    rw [← e]
    exact of_decide_eq_true h'.2
end Ub
/-! What the written part of the program says, put together. -/
namespace Ub
open PySem PySem.Spec PyProof.Rows L2
section
variable {K : PySem.W.Frag} {h : Heap} {mg : Str → Option Value}
theorem dn_mk {x : Str} {st : Stmt} {ps : List Str} {f : Addr} {oc : Value} {od an : Option Addr} {osl : Array (Option Value)} {kV dc pm cd ct : Value} (X : K.In h) (G : h.Ns mainGlobals mg)
    (b : ∀ (kV doc pm : Value) (an : Option Addr) (cdv ct : Value) (us : List Value), us.length = ps.length → bindArgs (PySem.W.fnOf x x (defArgs st) (defBody st) (defScope st) .none kV doc pm an cdv ct) ⟨us, []⟩ = pure (ps.zip us))
    (a : PySem.W.nsIn K mainGlobals x = some (some (.ref f))) (l : K.lookup f = some ⟨oc, od, .func (PySem.W.fnOf x x (defArgs st) (defBody st) (defScope st) .none kV dc pm an cd ct), osl⟩) (c : PySem.W.codeIn K cd x = true) (k : PySem.W.keepIn K (.ref f) = true) : Dn K mg x st ps :=
  ⟨⟨f, _, fun_mk l c k, PySem.W.mg_of X G a, (fun_mk l c k).binds b⟩⟩
theorem mn_mk {m qual : Str} {st : Stmt} {ps : List Str} {C f : Addr} {oc : Value} {od an : Option Addr} {osl : Array (Option Value)} {kV dc pm cd ct : Value}
    (b : ∀ (kV doc pm : Value) (an : Option Addr) (cdv ct : Value) (us : List Value), us.length = ps.length → bindArgs (PySem.W.fnOf m qual (defArgs st) (defBody st) (defScope st) .none kV doc pm an cdv ct) ⟨us, []⟩ = pure (ps.zip us))
    (a : PySem.W.findIn K (.ref C) m = some (some (.ref f))) (i : PySem.W.isFn K (.ref f) = true) (l : K.lookup f = some ⟨oc, od, .func (PySem.W.fnOf m qual (defArgs st) (defBody st) (defScope st) .none kV dc pm an cd ct), osl⟩) (c : PySem.W.codeIn K cd qual = true) (k : PySem.W.keepIn K (.ref f) = true) : Mn K C m qual st ps :=
  ⟨⟨f, _, fun_mk l c k, ⟨a, i, k⟩, (fun_mk l c k).binds b⟩⟩
theorem in_mk {x qual : Str} {st : Stmt} {ps : List Str} {C f : Addr} {oc : Value} {od an : Option Addr} {osl : Array (Option Value)} {kV dc pm cd ct : Value} (g : mg x = some (.ref C))
    (b : ∀ (kV doc pm : Value) (an : Option Addr) (cdv ct : Value) (us : List Value), us.length = ps.length → bindArgs (PySem.W.fnOf "__init__" qual (defArgs st) (defBody st) (defScope st) .none kV doc pm an cdv ct) ⟨us, []⟩ = pure (ps.zip us))
    (ms : PySem.W.makesIn K C = true) (kC : PySem.W.keepIn K (.ref C) = true) (a : PySem.W.findIn K (.ref C) "__init__" = some (some (.ref f))) (i : PySem.W.isFn K (.ref f) = true) (l : K.lookup f = some ⟨oc, od, .func (PySem.W.fnOf "__init__" qual (defArgs st) (defBody st) (defScope st) .none kV dc pm an cd ct), osl⟩) (c : PySem.W.codeIn K cd qual = true) (k : PySem.W.keepIn K (.ref f) = true) : In K mg x C qual st ps :=
  ⟨⟨f, _, fun_mk l c k, ⟨ms, a, i, kC⟩, g, (fun_mk l c k).binds b⟩⟩
/-- an error of a class is what a clause of the class names -/
theorem exm_own {C : Addr} (h1 : PySem.W.subIn K (.ref C) (.type "BaseException") = some true) (h2 : PySem.W.isClsIn K C = true) (h3 : PySem.W.typeIn K (.ref C) = some (.type "type")) (h4 : PySem.W.subIn K (.ref C) (.ref C) = some true) : PySem.W.exmOne K (.ref C) (.ref C) = some true := by
  have h2' : (PySem.W.clsIn K C).isSome = true := h2
  simp [PySem.W.exmOne, PySem.W.kitCls, h1, h2', h3, h4]
theorem dn_lead {f : Addr} {oc : Value} {od an : Option Addr} {osl : Array (Option Value)} {kV dc pm cd ct : Value} (X : K.In h) (G : h.Ns mainGlobals mg) (a : PySem.W.nsIn K mainGlobals "lead" = some (some (.ref f))) (l : K.lookup f = some ⟨oc, od, .func (PySem.W.fnOf "lead" "lead" (defArgs s_lead) (defBody s_lead) (defScope s_lead) .none kV dc pm an cd ct), osl⟩) (c : PySem.W.codeIn K cd "lead" = true) (k : PySem.W.keepIn K (.ref f) = true) : Dn K mg "lead" s_lead ["measure", "value", "other"] :=
  dn_mk X G (fun _ _ _ _ _ _ us hl => match us, hl with | [_, _, _], _ => rfl) a l c k
theorem dn_is_better {f : Addr} {oc : Value} {od an : Option Addr} {osl : Array (Option Value)} {kV dc pm cd ct : Value} (X : K.In h) (G : h.Ns mainGlobals mg) (a : PySem.W.nsIn K mainGlobals "is_better" = some (some (.ref f))) (l : K.lookup f = some ⟨oc, od, .func (PySem.W.fnOf "is_better" "is_better" (defArgs s_is_better) (defBody s_is_better) (defScope s_is_better) .none kV dc pm an cd ct), osl⟩) (c : PySem.W.codeIn K cd "is_better" = true) (k : PySem.W.keepIn K (.ref f) = true) : Dn K mg "is_better" s_is_better ["measure", "value", "other"] :=
  dn_mk X G (fun _ _ _ _ _ _ us hl => match us, hl with | [_, _, _], _ => rfl) a l c k
theorem dn_row_beats {f : Addr} {oc : Value} {od an : Option Addr} {osl : Array (Option Value)} {kV dc pm cd ct : Value} (X : K.In h) (G : h.Ns mainGlobals mg) (a : PySem.W.nsIn K mainGlobals "row_beats" = some (some (.ref f))) (l : K.lookup f = some ⟨oc, od, .func (PySem.W.fnOf "row_beats" "row_beats" (defArgs s_row_beats) (defBody s_row_beats) (defScope s_row_beats) .none kV dc pm an cd ct), osl⟩) (c : PySem.W.codeIn K cd "row_beats" = true) (k : PySem.W.keepIn K (.ref f) = true) : Dn K mg "row_beats" s_row_beats ["measures", "row", "other_row"] :=
  dn_mk X G (fun _ _ _ _ _ _ us hl => match us, hl with | [_, _, _], _ => rfl) a l c k
theorem dn_beats {f : Addr} {oc : Value} {od an : Option Addr} {osl : Array (Option Value)} {kV dc pm cd ct : Value} (X : K.In h) (G : h.Ns mainGlobals mg) (a : PySem.W.nsIn K mainGlobals "beats" = some (some (.ref f))) (l : K.lookup f = some ⟨oc, od, .func (PySem.W.fnOf "beats" "beats" (defArgs s_beats) (defBody s_beats) (defScope s_beats) .none kV dc pm an cd ct), osl⟩) (c : PySem.W.codeIn K cd "beats" = true) (k : PySem.W.keepIn K (.ref f) = true) : Dn K mg "beats" s_beats ["listing", "number", "other"] :=
  dn_mk X G (fun _ _ _ _ _ _ us hl => match us, hl with | [_, _, _], _ => rfl) a l c k
theorem dn_are_same {f : Addr} {oc : Value} {od an : Option Addr} {osl : Array (Option Value)} {kV dc pm cd ct : Value} (X : K.In h) (G : h.Ns mainGlobals mg) (a : PySem.W.nsIn K mainGlobals "are_same" = some (some (.ref f))) (l : K.lookup f = some ⟨oc, od, .func (PySem.W.fnOf "are_same" "are_same" (defArgs s_are_same) (defBody s_are_same) (defScope s_are_same) .none kV dc pm an cd ct), osl⟩) (c : PySem.W.codeIn K cd "are_same" = true) (k : PySem.W.keepIn K (.ref f) = true) : Dn K mg "are_same" s_are_same ["listing", "number", "other"] :=
  dn_mk X G (fun _ _ _ _ _ _ us hl => match us, hl with | [_, _, _], _ => rfl) a l c k
theorem dn_is_unbeaten {f : Addr} {oc : Value} {od an : Option Addr} {osl : Array (Option Value)} {kV dc pm cd ct : Value} (X : K.In h) (G : h.Ns mainGlobals mg) (a : PySem.W.nsIn K mainGlobals "is_unbeaten" = some (some (.ref f))) (l : K.lookup f = some ⟨oc, od, .func (PySem.W.fnOf "is_unbeaten" "is_unbeaten" (defArgs s_is_unbeaten) (defBody s_is_unbeaten) (defScope s_is_unbeaten) .none kV dc pm an cd ct), osl⟩) (c : PySem.W.codeIn K cd "is_unbeaten" = true) (k : PySem.W.keepIn K (.ref f) = true) : Dn K mg "is_unbeaten" s_is_unbeaten ["listing", "number", "among"] :=
  dn_mk X G (fun _ _ _ _ _ _ us hl => match us, hl with | [_, _, _], _ => rfl) a l c k
theorem dn_unbeaten_among {f : Addr} {oc : Value} {od an : Option Addr} {osl : Array (Option Value)} {kV dc pm cd ct : Value} (X : K.In h) (G : h.Ns mainGlobals mg) (a : PySem.W.nsIn K mainGlobals "unbeaten_among" = some (some (.ref f))) (l : K.lookup f = some ⟨oc, od, .func (PySem.W.fnOf "unbeaten_among" "unbeaten_among" (defArgs s_unbeaten_among) (defBody s_unbeaten_among) (defScope s_unbeaten_among) .none kV dc pm an cd ct), osl⟩) (c : PySem.W.codeIn K cd "unbeaten_among" = true) (k : PySem.W.keepIn K (.ref f) = true) : Dn K mg "unbeaten_among" s_unbeaten_among ["listing", "among"] :=
  dn_mk X G (fun _ _ _ _ _ _ us hl => match us, hl with | [_, _], _ => rfl) a l c k
theorem dn_beaters_of {f : Addr} {oc : Value} {od an : Option Addr} {osl : Array (Option Value)} {kV dc pm cd ct : Value} (X : K.In h) (G : h.Ns mainGlobals mg) (a : PySem.W.nsIn K mainGlobals "beaters_of" = some (some (.ref f))) (l : K.lookup f = some ⟨oc, od, .func (PySem.W.fnOf "beaters_of" "beaters_of" (defArgs s_beaters_of) (defBody s_beaters_of) (defScope s_beaters_of) .none kV dc pm an cd ct), osl⟩) (c : PySem.W.codeIn K cd "beaters_of" = true) (k : PySem.W.keepIn K (.ref f) = true) : Dn K mg "beaters_of" s_beaters_of ["listing", "number"] :=
  dn_mk X G (fun _ _ _ _ _ _ us hl => match us, hl with | [_, _], _ => rfl) a l c k
theorem dn_beaten_by {f : Addr} {oc : Value} {od an : Option Addr} {osl : Array (Option Value)} {kV dc pm cd ct : Value} (X : K.In h) (G : h.Ns mainGlobals mg) (a : PySem.W.nsIn K mainGlobals "beaten_by" = some (some (.ref f))) (l : K.lookup f = some ⟨oc, od, .func (PySem.W.fnOf "beaten_by" "beaten_by" (defArgs s_beaten_by) (defBody s_beaten_by) (defScope s_beaten_by) .none kV dc pm an cd ct), osl⟩) (c : PySem.W.codeIn K cd "beaten_by" = true) (k : PySem.W.keepIn K (.ref f) = true) : Dn K mg "beaten_by" s_beaten_by ["listing", "number"] :=
  dn_mk X G (fun _ _ _ _ _ _ us hl => match us, hl with | [_, _], _ => rfl) a l c k
theorem dn_reasons_of {f : Addr} {oc : Value} {od an : Option Addr} {osl : Array (Option Value)} {kV dc pm cd ct : Value} (X : K.In h) (G : h.Ns mainGlobals mg) (a : PySem.W.nsIn K mainGlobals "reasons_of" = some (some (.ref f))) (l : K.lookup f = some ⟨oc, od, .func (PySem.W.fnOf "reasons_of" "reasons_of" (defArgs s_reasons_of) (defBody s_reasons_of) (defScope s_reasons_of) .none kV dc pm an cd ct), osl⟩) (c : PySem.W.codeIn K cd "reasons_of" = true) (k : PySem.W.keepIn K (.ref f) = true) : Dn K mg "reasons_of" s_reasons_of ["listing", "number"] :=
  dn_mk X G (fun _ _ _ _ _ _ us hl => match us, hl with | [_, _], _ => rfl) a l c k
theorem dn_layers_of {f : Addr} {oc : Value} {od an : Option Addr} {osl : Array (Option Value)} {kV dc pm cd ct : Value} (X : K.In h) (G : h.Ns mainGlobals mg) (a : PySem.W.nsIn K mainGlobals "layers_of" = some (some (.ref f))) (l : K.lookup f = some ⟨oc, od, .func (PySem.W.fnOf "layers_of" "layers_of" (defArgs s_layers_of) (defBody s_layers_of) (defScope s_layers_of) .none kV dc pm an cd ct), osl⟩) (c : PySem.W.codeIn K cd "layers_of" = true) (k : PySem.W.keepIn K (.ref f) = true) : Dn K mg "layers_of" s_layers_of ["listing"] :=
  dn_mk X G (fun _ _ _ _ _ _ us hl => match us, hl with | [_], _ => rfl) a l c k
theorem dn_layer_number {f : Addr} {oc : Value} {od an : Option Addr} {osl : Array (Option Value)} {kV dc pm cd ct : Value} (X : K.In h) (G : h.Ns mainGlobals mg) (a : PySem.W.nsIn K mainGlobals "layer_number" = some (some (.ref f))) (l : K.lookup f = some ⟨oc, od, .func (PySem.W.fnOf "layer_number" "layer_number" (defArgs s_layer_number) (defBody s_layer_number) (defScope s_layer_number) .none kV dc pm an cd ct), osl⟩) (c : PySem.W.codeIn K cd "layer_number" = true) (k : PySem.W.keepIn K (.ref f) = true) : Dn K mg "layer_number" s_layer_number ["listing", "number"] :=
  dn_mk X G (fun _ _ _ _ _ _ us hl => match us, hl with | [_, _], _ => rfl) a l c k
theorem dn_same_but_at {f : Addr} {oc : Value} {od an : Option Addr} {osl : Array (Option Value)} {kV dc pm cd ct : Value} (X : K.In h) (G : h.Ns mainGlobals mg) (a : PySem.W.nsIn K mainGlobals "same_but_at" = some (some (.ref f))) (l : K.lookup f = some ⟨oc, od, .func (PySem.W.fnOf "same_but_at" "same_but_at" (defArgs s_same_but_at) (defBody s_same_but_at) (defScope s_same_but_at) .none kV dc pm an cd ct), osl⟩) (c : PySem.W.codeIn K cd "same_but_at" = true) (k : PySem.W.keepIn K (.ref f) = true) : Dn K mg "same_but_at" s_same_but_at ["row", "other_row", "measure_number"] :=
  dn_mk X G (fun _ _ _ _ _ _ us hl => match us, hl with | [_, _, _], _ => rfl) a l c k
theorem dn_gain_against {f : Addr} {oc : Value} {od an : Option Addr} {osl : Array (Option Value)} {kV dc pm cd ct : Value} (X : K.In h) (G : h.Ns mainGlobals mg) (a : PySem.W.nsIn K mainGlobals "gain_against" = some (some (.ref f))) (l : K.lookup f = some ⟨oc, od, .func (PySem.W.fnOf "gain_against" "gain_against" (defArgs s_gain_against) (defBody s_gain_against) (defScope s_gain_against) .none kV dc pm an cd ct), osl⟩) (c : PySem.W.codeIn K cd "gain_against" = true) (k : PySem.W.keepIn K (.ref f) = true) : Dn K mg "gain_against" s_gain_against ["listing", "number", "beater", "measure_number"] :=
  dn_mk X G (fun _ _ _ _ _ _ us hl => match us, hl with | [_, _, _, _], _ => rfl) a l c k
theorem dn_gain_of {f : Addr} {oc : Value} {od an : Option Addr} {osl : Array (Option Value)} {kV dc pm cd ct : Value} (X : K.In h) (G : h.Ns mainGlobals mg) (a : PySem.W.nsIn K mainGlobals "gain_of" = some (some (.ref f))) (l : K.lookup f = some ⟨oc, od, .func (PySem.W.fnOf "gain_of" "gain_of" (defArgs s_gain_of) (defBody s_gain_of) (defScope s_gain_of) .none kV dc pm an cd ct), osl⟩) (c : PySem.W.codeIn K cd "gain_of" = true) (k : PySem.W.keepIn K (.ref f) = true) : Dn K mg "gain_of" s_gain_of ["listing", "number", "measure_number"] :=
  dn_mk X G (fun _ _ _ _ _ _ us hl => match us, hl with | [_, _, _], _ => rfl) a l c k
theorem dn_bytes_of {f : Addr} {oc : Value} {od an : Option Addr} {osl : Array (Option Value)} {kV dc pm cd ct : Value} (X : K.In h) (G : h.Ns mainGlobals mg) (a : PySem.W.nsIn K mainGlobals "bytes_of" = some (some (.ref f))) (l : K.lookup f = some ⟨oc, od, .func (PySem.W.fnOf "bytes_of" "bytes_of" (defArgs s_bytes_of) (defBody s_bytes_of) (defScope s_bytes_of) .none kV dc pm an cd ct), osl⟩) (c : PySem.W.codeIn K cd "bytes_of" = true) (k : PySem.W.keepIn K (.ref f) = true) : Dn K mg "bytes_of" s_bytes_of ["text"] :=
  dn_mk X G (fun _ _ _ _ _ _ us hl => match us, hl with | [_], _ => rfl) a l c k
theorem dn_is_digit {f : Addr} {oc : Value} {od an : Option Addr} {osl : Array (Option Value)} {kV dc pm cd ct : Value} (X : K.In h) (G : h.Ns mainGlobals mg) (a : PySem.W.nsIn K mainGlobals "is_digit" = some (some (.ref f))) (l : K.lookup f = some ⟨oc, od, .func (PySem.W.fnOf "is_digit" "is_digit" (defArgs s_is_digit) (defBody s_is_digit) (defScope s_is_digit) .none kV dc pm an cd ct), osl⟩) (c : PySem.W.codeIn K cd "is_digit" = true) (k : PySem.W.keepIn K (.ref f) = true) : Dn K mg "is_digit" s_is_digit ["byte"] :=
  dn_mk X G (fun _ _ _ _ _ _ us hl => match us, hl with | [_], _ => rfl) a l c k
theorem dn_is_letter {f : Addr} {oc : Value} {od an : Option Addr} {osl : Array (Option Value)} {kV dc pm cd ct : Value} (X : K.In h) (G : h.Ns mainGlobals mg) (a : PySem.W.nsIn K mainGlobals "is_letter" = some (some (.ref f))) (l : K.lookup f = some ⟨oc, od, .func (PySem.W.fnOf "is_letter" "is_letter" (defArgs s_is_letter) (defBody s_is_letter) (defScope s_is_letter) .none kV dc pm an cd ct), osl⟩) (c : PySem.W.codeIn K cd "is_letter" = true) (k : PySem.W.keepIn K (.ref f) = true) : Dn K mg "is_letter" s_is_letter ["byte"] :=
  dn_mk X G (fun _ _ _ _ _ _ us hl => match us, hl with | [_], _ => rfl) a l c k
theorem dn_is_letter_or_digit {f : Addr} {oc : Value} {od an : Option Addr} {osl : Array (Option Value)} {kV dc pm cd ct : Value} (X : K.In h) (G : h.Ns mainGlobals mg) (a : PySem.W.nsIn K mainGlobals "is_letter_or_digit" = some (some (.ref f))) (l : K.lookup f = some ⟨oc, od, .func (PySem.W.fnOf "is_letter_or_digit" "is_letter_or_digit" (defArgs s_is_letter_or_digit) (defBody s_is_letter_or_digit) (defScope s_is_letter_or_digit) .none kV dc pm an cd ct), osl⟩) (c : PySem.W.codeIn K cd "is_letter_or_digit" = true) (k : PySem.W.keepIn K (.ref f) = true) : Dn K mg "is_letter_or_digit" s_is_letter_or_digit ["byte"] :=
  dn_mk X G (fun _ _ _ _ _ _ us hl => match us, hl with | [_], _ => rfl) a l c k
theorem dn_run_end {f : Addr} {oc : Value} {od an : Option Addr} {osl : Array (Option Value)} {kV dc pm cd ct : Value} (X : K.In h) (G : h.Ns mainGlobals mg) (a : PySem.W.nsIn K mainGlobals "run_end" = some (some (.ref f))) (l : K.lookup f = some ⟨oc, od, .func (PySem.W.fnOf "run_end" "run_end" (defArgs s_run_end) (defBody s_run_end) (defScope s_run_end) .none kV dc pm an cd ct), osl⟩) (c : PySem.W.codeIn K cd "run_end" = true) (k : PySem.W.keepIn K (.ref f) = true) : Dn K mg "run_end" s_run_end ["text", "at", "belongs"] :=
  dn_mk X G (fun _ _ _ _ _ _ us hl => match us, hl with | [_, _, _], _ => rfl) a l c k
theorem dn_remark_end {f : Addr} {oc : Value} {od an : Option Addr} {osl : Array (Option Value)} {kV dc pm cd ct : Value} (X : K.In h) (G : h.Ns mainGlobals mg) (a : PySem.W.nsIn K mainGlobals "remark_end" = some (some (.ref f))) (l : K.lookup f = some ⟨oc, od, .func (PySem.W.fnOf "remark_end" "remark_end" (defArgs s_remark_end) (defBody s_remark_end) (defScope s_remark_end) .none kV dc pm an cd ct), osl⟩) (c : PySem.W.codeIn K cd "remark_end" = true) (k : PySem.W.keepIn K (.ref f) = true) : Dn K mg "remark_end" s_remark_end ["text", "at"] :=
  dn_mk X G (fun _ _ _ _ _ _ us hl => match us, hl with | [_, _], _ => rfl) a l c k
theorem dn_skip_gap {f : Addr} {oc : Value} {od an : Option Addr} {osl : Array (Option Value)} {kV dc pm cd ct : Value} (X : K.In h) (G : h.Ns mainGlobals mg) (a : PySem.W.nsIn K mainGlobals "skip_gap" = some (some (.ref f))) (l : K.lookup f = some ⟨oc, od, .func (PySem.W.fnOf "skip_gap" "skip_gap" (defArgs s_skip_gap) (defBody s_skip_gap) (defScope s_skip_gap) .none kV dc pm an cd ct), osl⟩) (c : PySem.W.codeIn K cd "skip_gap" = true) (k : PySem.W.keepIn K (.ref f) = true) : Dn K mg "skip_gap" s_skip_gap ["text", "at"] :=
  dn_mk X G (fun _ _ _ _ _ _ us hl => match us, hl with | [_, _], _ => rfl) a l c k
theorem dn_token_end {f : Addr} {oc : Value} {od an : Option Addr} {osl : Array (Option Value)} {kV dc pm cd ct : Value} (X : K.In h) (G : h.Ns mainGlobals mg) (a : PySem.W.nsIn K mainGlobals "token_end" = some (some (.ref f))) (l : K.lookup f = some ⟨oc, od, .func (PySem.W.fnOf "token_end" "token_end" (defArgs s_token_end) (defBody s_token_end) (defScope s_token_end) .none kV dc pm an cd ct), osl⟩) (c : PySem.W.codeIn K cd "token_end" = true) (k : PySem.W.keepIn K (.ref f) = true) : Dn K mg "token_end" s_token_end ["text", "at"] :=
  dn_mk X G (fun _ _ _ _ _ _ us hl => match us, hl with | [_, _], _ => rfl) a l c k
theorem dn_word_or_name {f : Addr} {oc : Value} {od an : Option Addr} {osl : Array (Option Value)} {kV dc pm cd ct : Value} (X : K.In h) (G : h.Ns mainGlobals mg) (a : PySem.W.nsIn K mainGlobals "word_or_name" = some (some (.ref f))) (l : K.lookup f = some ⟨oc, od, .func (PySem.W.fnOf "word_or_name" "word_or_name" (defArgs s_word_or_name) (defBody s_word_or_name) (defScope s_word_or_name) .none kV dc pm an cd ct), osl⟩) (c : PySem.W.codeIn K cd "word_or_name" = true) (k : PySem.W.keepIn K (.ref f) = true) : Dn K mg "word_or_name" s_word_or_name ["piece", "place"] :=
  dn_mk X G (fun _ _ _ _ _ _ us hl => match us, hl with | [_, _], _ => rfl) a l c k
theorem dn_number_token {f : Addr} {oc : Value} {od an : Option Addr} {osl : Array (Option Value)} {kV dc pm cd ct : Value} (X : K.In h) (G : h.Ns mainGlobals mg) (a : PySem.W.nsIn K mainGlobals "number_token" = some (some (.ref f))) (l : K.lookup f = some ⟨oc, od, .func (PySem.W.fnOf "number_token" "number_token" (defArgs s_number_token) (defBody s_number_token) (defScope s_number_token) .none kV dc pm an cd ct), osl⟩) (c : PySem.W.codeIn K cd "number_token" = true) (k : PySem.W.keepIn K (.ref f) = true) : Dn K mg "number_token" s_number_token ["digits", "place"] :=
  dn_mk X G (fun _ _ _ _ _ _ us hl => match us, hl with | [_, _], _ => rfl) a l c k
theorem dn_token_of {f : Addr} {oc : Value} {od an : Option Addr} {osl : Array (Option Value)} {kV dc pm cd ct : Value} (X : K.In h) (G : h.Ns mainGlobals mg) (a : PySem.W.nsIn K mainGlobals "token_of" = some (some (.ref f))) (l : K.lookup f = some ⟨oc, od, .func (PySem.W.fnOf "token_of" "token_of" (defArgs s_token_of) (defBody s_token_of) (defScope s_token_of) .none kV dc pm an cd ct), osl⟩) (c : PySem.W.codeIn K cd "token_of" = true) (k : PySem.W.keepIn K (.ref f) = true) : Dn K mg "token_of" s_token_of ["piece", "place"] :=
  dn_mk X G (fun _ _ _ _ _ _ us hl => match us, hl with | [_, _], _ => rfl) a l c k
theorem dn_tokens_of {f : Addr} {oc : Value} {od an : Option Addr} {osl : Array (Option Value)} {kV dc pm cd ct : Value} (X : K.In h) (G : h.Ns mainGlobals mg) (a : PySem.W.nsIn K mainGlobals "tokens_of" = some (some (.ref f))) (l : K.lookup f = some ⟨oc, od, .func (PySem.W.fnOf "tokens_of" "tokens_of" (defArgs s_tokens_of) (defBody s_tokens_of) (defScope s_tokens_of) .none kV dc pm an cd ct), osl⟩) (c : PySem.W.codeIn K cd "tokens_of" = true) (k : PySem.W.keepIn K (.ref f) = true) : Dn K mg "tokens_of" s_tokens_of ["text"] :=
  dn_mk X G (fun _ _ _ _ _ _ us hl => match us, hl with | [_], _ => rfl) a l c k
theorem dn_check_new {f : Addr} {oc : Value} {od an : Option Addr} {osl : Array (Option Value)} {kV dc pm cd ct : Value} (X : K.In h) (G : h.Ns mainGlobals mg) (a : PySem.W.nsIn K mainGlobals "check_new" = some (some (.ref f))) (l : K.lookup f = some ⟨oc, od, .func (PySem.W.fnOf "check_new" "check_new" (defArgs s_check_new) (defBody s_check_new) (defScope s_check_new) .none kV dc pm an cd ct), osl⟩) (c : PySem.W.codeIn K cd "check_new" = true) (k : PySem.W.keepIn K (.ref f) = true) : Dn K mg "check_new" s_check_new ["token", "bearers"] :=
  dn_mk X G (fun _ _ _ _ _ _ us hl => match us, hl with | [_, _], _ => rfl) a l c k
theorem dn_check_room {f : Addr} {oc : Value} {od an : Option Addr} {osl : Array (Option Value)} {kV dc pm cd ct : Value} (X : K.In h) (G : h.Ns mainGlobals mg) (a : PySem.W.nsIn K mainGlobals "check_room" = some (some (.ref f))) (l : K.lookup f = some ⟨oc, od, .func (PySem.W.fnOf "check_room" "check_room" (defArgs s_check_room) (defBody s_check_room) (defScope s_check_room) .none kV dc pm an cd ct), osl⟩) (c : PySem.W.codeIn K cd "check_room" = true) (k : PySem.W.keepIn K (.ref f) = true) : Dn K mg "check_room" s_check_room ["token", "told", "most"] :=
  dn_mk X G (fun _ _ _ _ _ _ us hl => match us, hl with | [_, _, _], _ => rfl) a l c k
theorem dn_read_measure {f : Addr} {oc : Value} {od an : Option Addr} {osl : Array (Option Value)} {kV dc pm cd ct : Value} (X : K.In h) (G : h.Ns mainGlobals mg) (a : PySem.W.nsIn K mainGlobals "read_measure" = some (some (.ref f))) (l : K.lookup f = some ⟨oc, od, .func (PySem.W.fnOf "read_measure" "read_measure" (defArgs s_read_measure) (defBody s_read_measure) (defScope s_read_measure) .none kV dc pm an cd ct), osl⟩) (c : PySem.W.codeIn K cd "read_measure" = true) (k : PySem.W.keepIn K (.ref f) = true) : Dn K mg "read_measure" s_read_measure ["reader", "earlier"] :=
  dn_mk X G (fun _ _ _ _ _ _ us hl => match us, hl with | [_, _], _ => rfl) a l c k
theorem dn_read_measures {f : Addr} {oc : Value} {od an : Option Addr} {osl : Array (Option Value)} {kV dc pm cd ct : Value} (X : K.In h) (G : h.Ns mainGlobals mg) (a : PySem.W.nsIn K mainGlobals "read_measures" = some (some (.ref f))) (l : K.lookup f = some ⟨oc, od, .func (PySem.W.fnOf "read_measures" "read_measures" (defArgs s_read_measures) (defBody s_read_measures) (defScope s_read_measures) .none kV dc pm an cd ct), osl⟩) (c : PySem.W.codeIn K cd "read_measures" = true) (k : PySem.W.keepIn K (.ref f) = true) : Dn K mg "read_measures" s_read_measures ["reader"] :=
  dn_mk X G (fun _ _ _ _ _ _ us hl => match us, hl with | [_], _ => rfl) a l c k
theorem dn_read_value {f : Addr} {oc : Value} {od an : Option Addr} {osl : Array (Option Value)} {kV dc pm cd ct : Value} (X : K.In h) (G : h.Ns mainGlobals mg) (a : PySem.W.nsIn K mainGlobals "read_value" = some (some (.ref f))) (l : K.lookup f = some ⟨oc, od, .func (PySem.W.fnOf "read_value" "read_value" (defArgs s_read_value) (defBody s_read_value) (defScope s_read_value) .none kV dc pm an cd ct), osl⟩) (c : PySem.W.codeIn K cd "read_value" = true) (k : PySem.W.keepIn K (.ref f) = true) : Dn K mg "read_value" s_read_value ["reader"] :=
  dn_mk X G (fun _ _ _ _ _ _ us hl => match us, hl with | [_], _ => rfl) a l c k
theorem dn_read_row {f : Addr} {oc : Value} {od an : Option Addr} {osl : Array (Option Value)} {kV dc pm cd ct : Value} (X : K.In h) (G : h.Ns mainGlobals mg) (a : PySem.W.nsIn K mainGlobals "read_row" = some (some (.ref f))) (l : K.lookup f = some ⟨oc, od, .func (PySem.W.fnOf "read_row" "read_row" (defArgs s_read_row) (defBody s_read_row) (defScope s_read_row) .none kV dc pm an cd ct), osl⟩) (c : PySem.W.codeIn K cd "read_row" = true) (k : PySem.W.keepIn K (.ref f) = true) : Dn K mg "read_row" s_read_row ["reader", "size"] :=
  dn_mk X G (fun _ _ _ _ _ _ us hl => match us, hl with | [_, _], _ => rfl) a l c k
theorem dn_read_members {f : Addr} {oc : Value} {od an : Option Addr} {osl : Array (Option Value)} {kV dc pm cd ct : Value} (X : K.In h) (G : h.Ns mainGlobals mg) (a : PySem.W.nsIn K mainGlobals "read_members" = some (some (.ref f))) (l : K.lookup f = some ⟨oc, od, .func (PySem.W.fnOf "read_members" "read_members" (defArgs s_read_members) (defBody s_read_members) (defScope s_read_members) .none kV dc pm an cd ct), osl⟩) (c : PySem.W.codeIn K cd "read_members" = true) (k : PySem.W.keepIn K (.ref f) = true) : Dn K mg "read_members" s_read_members ["reader", "size"] :=
  dn_mk X G (fun _ _ _ _ _ _ us hl => match us, hl with | [_, _], _ => rfl) a l c k
theorem dn_read_list {f : Addr} {oc : Value} {od an : Option Addr} {osl : Array (Option Value)} {kV dc pm cd ct : Value} (X : K.In h) (G : h.Ns mainGlobals mg) (a : PySem.W.nsIn K mainGlobals "read_list" = some (some (.ref f))) (l : K.lookup f = some ⟨oc, od, .func (PySem.W.fnOf "read_list" "read_list" (defArgs s_read_list) (defBody s_read_list) (defScope s_read_list) .none kV dc pm an cd ct), osl⟩) (c : PySem.W.codeIn K cd "read_list" = true) (k : PySem.W.keepIn K (.ref f) = true) : Dn K mg "read_list" s_read_list ["text"] :=
  dn_mk X G (fun _ _ _ _ _ _ us hl => match us, hl with | [_], _ => rfl) a l c k
theorem dn_with_commas {f : Addr} {oc : Value} {od an : Option Addr} {osl : Array (Option Value)} {kV dc pm cd ct : Value} (X : K.In h) (G : h.Ns mainGlobals mg) (a : PySem.W.nsIn K mainGlobals "with_commas" = some (some (.ref f))) (l : K.lookup f = some ⟨oc, od, .func (PySem.W.fnOf "with_commas" "with_commas" (defArgs s_with_commas) (defBody s_with_commas) (defScope s_with_commas) .none kV dc pm an cd ct), osl⟩) (c : PySem.W.codeIn K cd "with_commas" = true) (k : PySem.W.keepIn K (.ref f) = true) : Dn K mg "with_commas" s_with_commas ["parts"] :=
  dn_mk X G (fun _ _ _ _ _ _ us hl => match us, hl with | [_], _ => rfl) a l c k
theorem dn_measure_part {f : Addr} {oc : Value} {od an : Option Addr} {osl : Array (Option Value)} {kV dc pm cd ct : Value} (X : K.In h) (G : h.Ns mainGlobals mg) (a : PySem.W.nsIn K mainGlobals "measure_part" = some (some (.ref f))) (l : K.lookup f = some ⟨oc, od, .func (PySem.W.fnOf "measure_part" "measure_part" (defArgs s_measure_part) (defBody s_measure_part) (defScope s_measure_part) .none kV dc pm an cd ct), osl⟩) (c : PySem.W.codeIn K cd "measure_part" = true) (k : PySem.W.keepIn K (.ref f) = true) : Dn K mg "measure_part" s_measure_part ["measure"] :=
  dn_mk X G (fun _ _ _ _ _ _ us hl => match us, hl with | [_], _ => rfl) a l c k
theorem dn_measures_line {f : Addr} {oc : Value} {od an : Option Addr} {osl : Array (Option Value)} {kV dc pm cd ct : Value} (X : K.In h) (G : h.Ns mainGlobals mg) (a : PySem.W.nsIn K mainGlobals "measures_line" = some (some (.ref f))) (l : K.lookup f = some ⟨oc, od, .func (PySem.W.fnOf "measures_line" "measures_line" (defArgs s_measures_line) (defBody s_measures_line) (defScope s_measures_line) .none kV dc pm an cd ct), osl⟩) (c : PySem.W.codeIn K cd "measures_line" = true) (k : PySem.W.keepIn K (.ref f) = true) : Dn K mg "measures_line" s_measures_line ["measures"] :=
  dn_mk X G (fun _ _ _ _ _ _ us hl => match us, hl with | [_], _ => rfl) a l c k
theorem dn_item_line {f : Addr} {oc : Value} {od an : Option Addr} {osl : Array (Option Value)} {kV dc pm cd ct : Value} (X : K.In h) (G : h.Ns mainGlobals mg) (a : PySem.W.nsIn K mainGlobals "item_line" = some (some (.ref f))) (l : K.lookup f = some ⟨oc, od, .func (PySem.W.fnOf "item_line" "item_line" (defArgs s_item_line) (defBody s_item_line) (defScope s_item_line) .none kV dc pm an cd ct), osl⟩) (c : PySem.W.codeIn K cd "item_line" = true) (k : PySem.W.keepIn K (.ref f) = true) : Dn K mg "item_line" s_item_line ["item"] :=
  dn_mk X G (fun _ _ _ _ _ _ us hl => match us, hl with | [_], _ => rfl) a l c k
theorem dn_one_form {f : Addr} {oc : Value} {od an : Option Addr} {osl : Array (Option Value)} {kV dc pm cd ct : Value} (X : K.In h) (G : h.Ns mainGlobals mg) (a : PySem.W.nsIn K mainGlobals "one_form" = some (some (.ref f))) (l : K.lookup f = some ⟨oc, od, .func (PySem.W.fnOf "one_form" "one_form" (defArgs s_one_form) (defBody s_one_form) (defScope s_one_form) .none kV dc pm an cd ct), osl⟩) (c : PySem.W.codeIn K cd "one_form" = true) (k : PySem.W.keepIn K (.ref f) = true) : Dn K mg "one_form" s_one_form ["listing"] :=
  dn_mk X G (fun _ _ _ _ _ _ us hl => match us, hl with | [_], _ => rfl) a l c k
theorem dn_counted {f : Addr} {oc : Value} {od an : Option Addr} {osl : Array (Option Value)} {kV dc pm cd ct : Value} (X : K.In h) (G : h.Ns mainGlobals mg) (a : PySem.W.nsIn K mainGlobals "counted" = some (some (.ref f))) (l : K.lookup f = some ⟨oc, od, .func (PySem.W.fnOf "counted" "counted" (defArgs s_counted) (defBody s_counted) (defScope s_counted) .none kV dc pm an cd ct), osl⟩) (c : PySem.W.codeIn K cd "counted" = true) (k : PySem.W.keepIn K (.ref f) = true) : Dn K mg "counted" s_counted ["numbers"] :=
  dn_mk X G (fun _ _ _ _ _ _ us hl => match us, hl with | [_], _ => rfl) a l c k
theorem dn_compared {f : Addr} {oc : Value} {od an : Option Addr} {osl : Array (Option Value)} {kV dc pm cd ct : Value} (X : K.In h) (G : h.Ns mainGlobals mg) (a : PySem.W.nsIn K mainGlobals "compared" = some (some (.ref f))) (l : K.lookup f = some ⟨oc, od, .func (PySem.W.fnOf "compared" "compared" (defArgs s_compared) (defBody s_compared) (defScope s_compared) .none kV dc pm an cd ct), osl⟩) (c : PySem.W.codeIn K cd "compared" = true) (k : PySem.W.keepIn K (.ref f) = true) : Dn K mg "compared" s_compared ["listing", "number", "other"] :=
  dn_mk X G (fun _ _ _ _ _ _ us hl => match us, hl with | [_, _, _], _ => rfl) a l c k
theorem dn_layers_told {f : Addr} {oc : Value} {od an : Option Addr} {osl : Array (Option Value)} {kV dc pm cd ct : Value} (X : K.In h) (G : h.Ns mainGlobals mg) (a : PySem.W.nsIn K mainGlobals "layers_told" = some (some (.ref f))) (l : K.lookup f = some ⟨oc, od, .func (PySem.W.fnOf "layers_told" "layers_told" (defArgs s_layers_told) (defBody s_layers_told) (defScope s_layers_told) .none kV dc pm an cd ct), osl⟩) (c : PySem.W.codeIn K cd "layers_told" = true) (k : PySem.W.keepIn K (.ref f) = true) : Dn K mg "layers_told" s_layers_told ["listing"] :=
  dn_mk X G (fun _ _ _ _ _ _ us hl => match us, hl with | [_], _ => rfl) a l c k
theorem dn_beaters_told {f : Addr} {oc : Value} {od an : Option Addr} {osl : Array (Option Value)} {kV dc pm cd ct : Value} (X : K.In h) (G : h.Ns mainGlobals mg) (a : PySem.W.nsIn K mainGlobals "beaters_told" = some (some (.ref f))) (l : K.lookup f = some ⟨oc, od, .func (PySem.W.fnOf "beaters_told" "beaters_told" (defArgs s_beaters_told) (defBody s_beaters_told) (defScope s_beaters_told) .none kV dc pm an cd ct), osl⟩) (c : PySem.W.codeIn K cd "beaters_told" = true) (k : PySem.W.keepIn K (.ref f) = true) : Dn K mg "beaters_told" s_beaters_told ["listing", "number"] :=
  dn_mk X G (fun _ _ _ _ _ _ us hl => match us, hl with | [_, _], _ => rfl) a l c k
theorem dn_gain_told {f : Addr} {oc : Value} {od an : Option Addr} {osl : Array (Option Value)} {kV dc pm cd ct : Value} (X : K.In h) (G : h.Ns mainGlobals mg) (a : PySem.W.nsIn K mainGlobals "gain_told" = some (some (.ref f))) (l : K.lookup f = some ⟨oc, od, .func (PySem.W.fnOf "gain_told" "gain_told" (defArgs s_gain_told) (defBody s_gain_told) (defScope s_gain_told) .none kV dc pm an cd ct), osl⟩) (c : PySem.W.codeIn K cd "gain_told" = true) (k : PySem.W.keepIn K (.ref f) = true) : Dn K mg "gain_told" s_gain_told ["listing", "number", "measure_number"] :=
  dn_mk X G (fun _ _ _ _ _ _ us hl => match us, hl with | [_, _, _], _ => rfl) a l c k
theorem dn_item_told {f : Addr} {oc : Value} {od an : Option Addr} {osl : Array (Option Value)} {kV dc pm cd ct : Value} (X : K.In h) (G : h.Ns mainGlobals mg) (a : PySem.W.nsIn K mainGlobals "item_told" = some (some (.ref f))) (l : K.lookup f = some ⟨oc, od, .func (PySem.W.fnOf "item_told" "item_told" (defArgs s_item_told) (defBody s_item_told) (defScope s_item_told) .none kV dc pm an cd ct), osl⟩) (c : PySem.W.codeIn K cd "item_told" = true) (k : PySem.W.keepIn K (.ref f) = true) : Dn K mg "item_told" s_item_told ["listing", "number"] :=
  dn_mk X G (fun _ _ _ _ _ _ us hl => match us, hl with | [_, _], _ => rfl) a l c k
theorem dn_answer_about_item {f : Addr} {oc : Value} {od an : Option Addr} {osl : Array (Option Value)} {kV dc pm cd ct : Value} (X : K.In h) (G : h.Ns mainGlobals mg) (a : PySem.W.nsIn K mainGlobals "answer_about_item" = some (some (.ref f))) (l : K.lookup f = some ⟨oc, od, .func (PySem.W.fnOf "answer_about_item" "answer_about_item" (defArgs s_answer_about_item) (defBody s_answer_about_item) (defScope s_answer_about_item) .none kV dc pm an cd ct), osl⟩) (c : PySem.W.codeIn K cd "answer_about_item" = true) (k : PySem.W.keepIn K (.ref f) = true) : Dn K mg "answer_about_item" s_answer_about_item ["listing", "call"] :=
  dn_mk X G (fun _ _ _ _ _ _ us hl => match us, hl with | [_, _], _ => rfl) a l c k
theorem dn_answer_about {f : Addr} {oc : Value} {od an : Option Addr} {osl : Array (Option Value)} {kV dc pm cd ct : Value} (X : K.In h) (G : h.Ns mainGlobals mg) (a : PySem.W.nsIn K mainGlobals "answer_about" = some (some (.ref f))) (l : K.lookup f = some ⟨oc, od, .func (PySem.W.fnOf "answer_about" "answer_about" (defArgs s_answer_about) (defBody s_answer_about) (defScope s_answer_about) .none kV dc pm an cd ct), osl⟩) (c : PySem.W.codeIn K cd "answer_about" = true) (k : PySem.W.keepIn K (.ref f) = true) : Dn K mg "answer_about" s_answer_about ["listing", "call"] :=
  dn_mk X G (fun _ _ _ _ _ _ us hl => match us, hl with | [_, _], _ => rfl) a l c k
theorem dn_call_end {f : Addr} {oc : Value} {od an : Option Addr} {osl : Array (Option Value)} {kV dc pm cd ct : Value} (X : K.In h) (G : h.Ns mainGlobals mg) (a : PySem.W.nsIn K mainGlobals "call_end" = some (some (.ref f))) (l : K.lookup f = some ⟨oc, od, .func (PySem.W.fnOf "call_end" "call_end" (defArgs s_call_end) (defBody s_call_end) (defScope s_call_end) .none kV dc pm an cd ct), osl⟩) (c : PySem.W.codeIn K cd "call_end" = true) (k : PySem.W.keepIn K (.ref f) = true) : Dn K mg "call_end" s_call_end ["calls", "at"] :=
  dn_mk X G (fun _ _ _ _ _ _ us hl => match us, hl with | [_, _], _ => rfl) a l c k
theorem dn_answers {f : Addr} {oc : Value} {od an : Option Addr} {osl : Array (Option Value)} {kV dc pm cd ct : Value} (X : K.In h) (G : h.Ns mainGlobals mg) (a : PySem.W.nsIn K mainGlobals "answers" = some (some (.ref f))) (l : K.lookup f = some ⟨oc, od, .func (PySem.W.fnOf "answers" "answers" (defArgs s_answers) (defBody s_answers) (defScope s_answers) .none kV dc pm an cd ct), osl⟩) (c : PySem.W.codeIn K cd "answers" = true) (k : PySem.W.keepIn K (.ref f) = true) : Dn K mg "answers" s_answers ["calls"] :=
  dn_mk X G (fun _ _ _ _ _ _ us hl => match us, hl with | [_], _ => rfl) a l c k
end
section
variable {P : Program} {w : World} {K : PySem.W.Frag} {mg : Str → Option Value} {A : Ad}
/-- all defs of the text, one above the other -/
theorem chain (T : Txt K mg A)
    (D_lead : Dn K mg "lead" s_lead ["measure", "value", "other"])
    (D_is_better : Dn K mg "is_better" s_is_better ["measure", "value", "other"])
    (D_row_beats : Dn K mg "row_beats" s_row_beats ["measures", "row", "other_row"])
    (D_beats : Dn K mg "beats" s_beats ["listing", "number", "other"])
    (D_are_same : Dn K mg "are_same" s_are_same ["listing", "number", "other"])
    (D_is_unbeaten : Dn K mg "is_unbeaten" s_is_unbeaten ["listing", "number", "among"])
    (D_unbeaten_among : Dn K mg "unbeaten_among" s_unbeaten_among ["listing", "among"])
    (D_beaters_of : Dn K mg "beaters_of" s_beaters_of ["listing", "number"])
    (D_beaten_by : Dn K mg "beaten_by" s_beaten_by ["listing", "number"])
    (D_reasons_of : Dn K mg "reasons_of" s_reasons_of ["listing", "number"])
    (D_layers_of : Dn K mg "layers_of" s_layers_of ["listing"])
    (D_layer_number : Dn K mg "layer_number" s_layer_number ["listing", "number"])
    (D_same_but_at : Dn K mg "same_but_at" s_same_but_at ["row", "other_row", "measure_number"])
    (D_gain_against : Dn K mg "gain_against" s_gain_against ["listing", "number", "beater", "measure_number"])
    (D_gain_of : Dn K mg "gain_of" s_gain_of ["listing", "number", "measure_number"])
    (D_bytes_of : Dn K mg "bytes_of" s_bytes_of ["text"])
    (D_is_digit : Dn K mg "is_digit" s_is_digit ["byte"])
    (D_is_letter : Dn K mg "is_letter" s_is_letter ["byte"])
    (D_is_letter_or_digit : Dn K mg "is_letter_or_digit" s_is_letter_or_digit ["byte"])
    (D_run_end : Dn K mg "run_end" s_run_end ["text", "at", "belongs"])
    (D_remark_end : Dn K mg "remark_end" s_remark_end ["text", "at"])
    (D_skip_gap : Dn K mg "skip_gap" s_skip_gap ["text", "at"])
    (D_token_end : Dn K mg "token_end" s_token_end ["text", "at"])
    (D_word_or_name : Dn K mg "word_or_name" s_word_or_name ["piece", "place"])
    (D_number_token : Dn K mg "number_token" s_number_token ["digits", "place"])
    (D_token_of : Dn K mg "token_of" s_token_of ["piece", "place"])
    (D_tokens_of : Dn K mg "tokens_of" s_tokens_of ["text"])
    (D_check_new : Dn K mg "check_new" s_check_new ["token", "bearers"])
    (D_check_room : Dn K mg "check_room" s_check_room ["token", "told", "most"])
    (D_read_measure : Dn K mg "read_measure" s_read_measure ["reader", "earlier"])
    (D_read_measures : Dn K mg "read_measures" s_read_measures ["reader"])
    (D_read_value : Dn K mg "read_value" s_read_value ["reader"])
    (D_read_row : Dn K mg "read_row" s_read_row ["reader", "size"])
    (D_read_members : Dn K mg "read_members" s_read_members ["reader", "size"])
    (D_read_list : Dn K mg "read_list" s_read_list ["text"])
    (D_with_commas : Dn K mg "with_commas" s_with_commas ["parts"])
    (D_measure_part : Dn K mg "measure_part" s_measure_part ["measure"])
    (D_measures_line : Dn K mg "measures_line" s_measures_line ["measures"])
    (D_item_line : Dn K mg "item_line" s_item_line ["item"])
    (D_one_form : Dn K mg "one_form" s_one_form ["listing"])
    (D_counted : Dn K mg "counted" s_counted ["numbers"])
    (D_compared : Dn K mg "compared" s_compared ["listing", "number", "other"])
    (D_layers_told : Dn K mg "layers_told" s_layers_told ["listing"])
    (D_beaters_told : Dn K mg "beaters_told" s_beaters_told ["listing", "number"])
    (D_gain_told : Dn K mg "gain_told" s_gain_told ["listing", "number", "measure_number"])
    (D_item_told : Dn K mg "item_told" s_item_told ["listing", "number"])
    (D_answer_about_item : Dn K mg "answer_about_item" s_answer_about_item ["listing", "call"])
    (D_answer_about : Dn K mg "answer_about" s_answer_about ["listing", "call"])
    (D_call_end : Dn K mg "call_end" s_call_end ["calls", "at"])
    (D_numbers : Mn K A.lst "numbers" "Listing.numbers" s_Listing_numbers ["self"])
    (D_has_item : Mn K A.lst "has_item" "Listing.has_item" s_Listing_has_item ["self", "number"])
    (D_has_measure : Mn K A.lst "has_measure" "Listing.has_measure" s_Listing_has_measure ["self", "number"])
    (D_take : Mn K A.rdr "take" "Reader.take" s_Reader_take ["self", "kinds"])
    (D_load : Mn K A.hol "load" "Holder.load" s_Holder_load ["self", "text"])
    (D_answer : Mn K A.hol "answer" "Holder.answer" s_Holder_answer ["self", "call"])
    (D_Token : In K mg "Token" A.tok "Token.__init__" s_Token_init ["self", "kind", "place", "said"])
    (D_Measure : In K mg "Measure" A.mea "Measure.__init__" s_Measure_init ["self", "name", "up"])
    (D_Item : In K mg "Item" A.itm "Item.__init__" s_Item_init ["self", "name", "row"])
    (D_Listing : In K mg "Listing" A.lst "Listing.__init__" s_Listing_init ["self", "measures", "members"])
    (D_Reader : In K mg "Reader" A.rdr "Reader.__init__" s_Reader_init ["self", "tokens"])
    (D_Holder : In K mg "Holder" A.hol "Holder.__init__" s_Holder_init ["self"])
    {f : Addr} {fd : FuncData} (F : Fun K "answers" "answers" s_answers f fd) (base : Heap) : FnOk P w K mg base CX0 13 f fd ["calls"] (spAnswers K) := by
  have k_lead := c_lead (P := P) (w := w) (base := base) T D_lead
  have k_is_better := c_is_better (P := P) (w := w) (base := base) T k_lead D_is_better
  have k_row_beats := c_row_beats (P := P) (w := w) (base := base) T k_is_better D_row_beats
  have k_beats := c_beats (P := P) (w := w) (base := base) T k_row_beats D_beats
  have k_are_same := c_are_same (P := P) (w := w) (base := base) T D_are_same
  have k_is_unbeaten := c_is_unbeaten (P := P) (w := w) (base := base) T k_beats D_is_unbeaten
  have k_unbeaten_among := c_unbeaten_among (P := P) (w := w) (base := base) T k_is_unbeaten D_unbeaten_among
  have k_numbers := c_numbers (P := P) (w := w) (base := base) T D_numbers
  have k_has_item := c_has_item (P := P) (w := w) (base := base) T D_has_item
  have k_has_measure := c_has_measure (P := P) (w := w) (base := base) T D_has_measure
  have k_beaters_of := c_beaters_of (P := P) (w := w) (base := base) T k_numbers k_beats D_beaters_of
  have k_beaten_by := c_beaten_by (P := P) (w := w) (base := base) T k_numbers k_beats D_beaten_by
  have k_reasons_of := c_reasons_of (P := P) (w := w) (base := base) T k_unbeaten_among k_beaters_of D_reasons_of
  have k_layers_of := c_layers_of (P := P) (w := w) (base := base) T k_numbers k_unbeaten_among D_layers_of
  have k_layer_number := c_layer_number (P := P) (w := w) (base := base) T k_layers_of D_layer_number
  have k_same_but_at := c_same_but_at (P := P) (w := w) (base := base) T D_same_but_at
  have k_gain_against := c_gain_against (P := P) (w := w) (base := base) T k_lead k_same_but_at D_gain_against
  have k_gain_of := c_gain_of (P := P) (w := w) (base := base) T k_beaters_of k_gain_against D_gain_of
  have k_bytes_of := c_bytes_of (P := P) (w := w) (base := base) T D_bytes_of
  have k_with_commas := c_with_commas (P := P) (w := w) (base := base) T k_bytes_of D_with_commas
  have k_measure_part := c_measure_part (P := P) (w := w) (base := base) T k_bytes_of D_measure_part
  have k_measures_line := c_measures_line (P := P) (w := w) (base := base) T k_bytes_of k_with_commas k_measure_part D_measures_line
  have k_item_line := c_item_line (P := P) (w := w) (base := base) T k_bytes_of k_with_commas D_item_line
  have k_one_form := c_one_form (P := P) (w := w) (base := base) T k_measures_line k_item_line D_one_form
  have k_is_digit := c_is_digit (P := P) (w := w) (base := base) T D_is_digit
  have k_is_letter := c_is_letter (P := P) (w := w) (base := base) T D_is_letter
  have k_is_letter_or_digit := c_is_letter_or_digit (P := P) (w := w) (base := base) T k_is_letter k_is_digit D_is_letter_or_digit
  have k_held := held_all (P := P) (w := w) (base := base) T k_is_digit k_is_letter_or_digit
  have k_run_end := c_run_end (P := P) (w := w) (base := base) T (k_held) D_run_end
  have k_remark_end := c_remark_end (P := P) (w := w) (base := base) T D_remark_end
  have k_skip_gap := c_skip_gap (P := P) (w := w) (base := base) T k_remark_end D_skip_gap
  have k_token_end := c_token_end (P := P) (w := w) (base := base) T k_is_letter k_is_digit k_run_end D_token_end
  have k_MToken := m_Token (P := P) (w := w) (base := base) T D_Token
  have k_word_or_name := c_word_or_name (P := P) (w := w) (base := base) T k_bytes_of k_MToken D_word_or_name
  have k_number_token := c_number_token (P := P) (w := w) (base := base) T k_MToken D_number_token
  have k_token_of := c_token_of (P := P) (w := w) (base := base) T k_MToken k_is_letter k_is_digit k_word_or_name k_number_token D_token_of
  have k_tokens_of := c_tokens_of (P := P) (w := w) (base := base) T k_MToken k_skip_gap k_token_end k_token_of D_tokens_of
  have k_MMeasure := m_Measure (P := P) (w := w) (base := base) T D_Measure
  have k_MItem := m_Item (P := P) (w := w) (base := base) T D_Item
  have k_MListing := m_Listing (P := P) (w := w) (base := base) T D_Listing
  have k_MReader := m_Reader (P := P) (w := w) (base := base) T D_Reader
  have k_take := c_take (P := P) (w := w) (base := base) T D_take
  have k_check_new := c_check_new (P := P) (w := w) (base := base) T D_check_new
  have k_check_room := c_check_room (P := P) (w := w) (base := base) T D_check_room
  have k_read_measure := c_read_measure (P := P) (w := w) (base := base) T k_take k_check_room k_check_new k_MMeasure D_read_measure
  have k_read_measures := c_read_measures (P := P) (w := w) (base := base) T k_take k_read_measure D_read_measures
  have k_read_value := c_read_value (P := P) (w := w) (base := base) T k_take D_read_value
  have k_read_row := c_read_row (P := P) (w := w) (base := base) T k_take k_read_value D_read_row
  have k_read_members := c_read_members (P := P) (w := w) (base := base) T k_take k_check_room k_check_new k_read_row k_MItem D_read_members
  have k_read_list := c_read_list (P := P) (w := w) (base := base) T k_tokens_of k_MReader k_read_measures k_read_members k_MListing D_read_list
  have k_counted := c_counted (P := P) (w := w) (base := base) T D_counted
  have k_compared := c_compared (P := P) (w := w) (base := base) T k_has_item k_beats k_are_same D_compared
  have k_layers_told := c_layers_told (P := P) (w := w) (base := base) T k_layers_of k_counted D_layers_told
  have k_beaters_told := c_beaters_told (P := P) (w := w) (base := base) T k_counted k_beaters_of k_reasons_of D_beaters_told
  have k_gain_told := c_gain_told (P := P) (w := w) (base := base) T k_has_measure k_gain_of D_gain_told
  have k_item_told := c_item_told (P := P) (w := w) (base := base) T k_counted k_layer_number D_item_told
  have k_answer_about_item := c_answer_about_item (P := P) (w := w) (base := base) T k_has_item k_beaters_told k_counted k_beaten_by k_gain_told k_item_told D_answer_about_item
  have k_answer_about := c_answer_about (P := P) (w := w) (base := base) T k_counted k_one_form k_compared k_unbeaten_among k_numbers k_layers_told k_answer_about_item D_answer_about
  have k_MHolder := m_Holder (P := P) (w := w) (base := base) T D_Holder
  have k_load := c_load (P := P) (w := w) (base := base) T k_read_list D_load
  have k_answer := c_answer (P := P) (w := w) (base := base) T k_load k_answer_about D_answer
  have k_call_end := c_call_end (P := P) (w := w) (base := base) T D_call_end
  exact c_answers T k_MHolder k_call_end k_counted k_answer F
end
section
variable {w : World} {P : Program} {K : PySem.W.Frag} {h : Heap} {mg : Str → Option Value}
theorem num_key {k : Int} {t : Tok} (j : Int) : Value.isInt k (.int j t) = decide (j = k) := rfl
theorem sig_of {a : Addr} {n : Nat} {k0 v0 k1 v1 k2 v2 k3 v3 : Tok} (l : K.lookup a = some ⟨.type "dict", none, .dict #[⟨44, .int 44 k0, .str "," v0⟩, ⟨58, .int 58 k1, .str ":" v1⟩, ⟨59, .int 59 k2, .str ";" v2⟩, ⟨45, .int 45 k3, .str "-" v3⟩] n, #[]⟩) (s : (a == sysModules) = false) : ∃ f, KNum K a f ∧ ∀ k, match signAt k with | none => f k = none | some z => ∃ u, f k = some u ∧ RelV (.str z) u := by
  have fb : ∀ k, findBy Value.isInt #[⟨44, .int 44 k0, .str "," v0⟩, ⟨58, .int 58 k1, .str ":" v1⟩, ⟨59, .int 59 k2, .str ";" v2⟩, ⟨45, .int 45 k3, .str "-" v3⟩] k = if k = 44 then some (.str "," v0) else if k = 58 then some (.str ":" v1) else if k = 59 then some (.str ";" v2) else if k = 45 then some (.str "-" v3) else none := fun k => by
    by_cases h0 : k = 44
    · subst h0
      rfl
    by_cases h1 : k = 58
    · subst h1
      rfl
    by_cases h2 : k = 59
    · subst h2
      rfl
    by_cases h3 : k = 45
    · subst h3
      rfl
    simp only [findBy, List.find?_toArray, List.find?, num_key, h0, Ne.symm h0, fun z : (44 : Int) = k => h0 z.symm, h1, Ne.symm h1, fun z : (58 : Int) = k => h1 z.symm, h2, Ne.symm h2, fun z : (59 : Int) = k => h2 z.symm, h3, Ne.symm h3, fun z : (45 : Int) = k => h3 z.symm, decide_false, if_false, Option.map_none]
  refine ⟨_, ⟨_, _, l, s, fun e he => ?_, fb⟩, ?_⟩
  · simp only [List.mem_toArray, List.mem_cons, List.not_mem_nil, or_false] at he
    rcases he with rfl | rfl | rfl | rfl
    · exact ⟨44, k0, rfl, show (44 : Int) = hashInt 44 by decide +kernel⟩
    · exact ⟨58, k1, rfl, show (58 : Int) = hashInt 58 by decide +kernel⟩
    · exact ⟨59, k2, rfl, show (59 : Int) = hashInt 59 by decide +kernel⟩
    · exact ⟨45, k3, rfl, show (45 : Int) = hashInt 45 by decide +kernel⟩
  · intro k
    unfold signAt
    by_cases h0 : k = 44
    · subst h0
      exact ⟨_, rfl, _, rfl⟩
    by_cases h1 : k = 58
    · subst h1
      exact ⟨_, rfl, _, rfl⟩
    by_cases h2 : k = 59
    · subst h2
      exact ⟨_, rfl, _, rfl⟩
    by_cases h3 : k = 45
    · subst h3
      exact ⟨_, rfl, _, rfl⟩
    rw [if_neg h0, if_neg h1, if_neg h2, if_neg h3]
    show (if k = 44 then _ else _) = none
    rw [if_neg h0, if_neg h1, if_neg h2, if_neg h3]
theorem cnt_of {a : Addr} {n : Nat} {k0 v0 k1 v1 k2 v2 k3 v3 k4 v4 k5 v5 k6 v6 k7 v7 : Tok} (l : K.lookup a = some ⟨.type "dict", none, .dict #[⟨1, .int 1 k0, .int 0 v0⟩, ⟨2, .int 2 k1, .int 2 v1⟩, ⟨3, .int 3 k2, .int 0 v2⟩, ⟨4, .int 4 k3, .int 0 v3⟩, ⟨5, .int 5 k4, .int 1 v4⟩, ⟨6, .int 6 k5, .int 1 v5⟩, ⟨7, .int 7 k6, .int 2 v6⟩, ⟨8, .int 8 k7, .int 1 v7⟩] n, #[]⟩) (s : (a == sysModules) = false) : ∃ f, KNum K a f ∧ ∀ k n, countAt k = some n → ∃ u, f k = some u ∧ RelV (.int n) u := by
  have fb : ∀ k, findBy Value.isInt #[⟨1, .int 1 k0, .int 0 v0⟩, ⟨2, .int 2 k1, .int 2 v1⟩, ⟨3, .int 3 k2, .int 0 v2⟩, ⟨4, .int 4 k3, .int 0 v3⟩, ⟨5, .int 5 k4, .int 1 v4⟩, ⟨6, .int 6 k5, .int 1 v5⟩, ⟨7, .int 7 k6, .int 2 v6⟩, ⟨8, .int 8 k7, .int 1 v7⟩] k = if k = 1 then some (.int 0 v0) else if k = 2 then some (.int 2 v1) else if k = 3 then some (.int 0 v2) else if k = 4 then some (.int 0 v3) else if k = 5 then some (.int 1 v4) else if k = 6 then some (.int 1 v5) else if k = 7 then some (.int 2 v6) else if k = 8 then some (.int 1 v7) else none := fun k => by
    by_cases h0 : k = 1
    · subst h0
      rfl
    by_cases h1 : k = 2
    · subst h1
      rfl
    by_cases h2 : k = 3
    · subst h2
      rfl
    by_cases h3 : k = 4
    · subst h3
      rfl
    by_cases h4 : k = 5
    · subst h4
      rfl
    by_cases h5 : k = 6
    · subst h5
      rfl
    by_cases h6 : k = 7
    · subst h6
      rfl
    by_cases h7 : k = 8
    · subst h7
      rfl
    simp only [findBy, List.find?_toArray, List.find?, num_key, h0, Ne.symm h0, fun z : (1 : Int) = k => h0 z.symm, h1, Ne.symm h1, fun z : (2 : Int) = k => h1 z.symm, h2, Ne.symm h2, fun z : (3 : Int) = k => h2 z.symm, h3, Ne.symm h3, fun z : (4 : Int) = k => h3 z.symm, h4, Ne.symm h4, fun z : (5 : Int) = k => h4 z.symm, h5, Ne.symm h5, fun z : (6 : Int) = k => h5 z.symm, h6, Ne.symm h6, fun z : (7 : Int) = k => h6 z.symm, h7, Ne.symm h7, fun z : (8 : Int) = k => h7 z.symm, decide_false, if_false, Option.map_none]
  refine ⟨_, ⟨_, _, l, s, fun e he => ?_, fb⟩, ?_⟩
  · simp only [List.mem_toArray, List.mem_cons, List.not_mem_nil, or_false] at he
    rcases he with rfl | rfl | rfl | rfl | rfl | rfl | rfl | rfl
    · exact ⟨1, k0, rfl, show (1 : Int) = hashInt 1 by decide +kernel⟩
    · exact ⟨2, k1, rfl, show (2 : Int) = hashInt 2 by decide +kernel⟩
    · exact ⟨3, k2, rfl, show (3 : Int) = hashInt 3 by decide +kernel⟩
    · exact ⟨4, k3, rfl, show (4 : Int) = hashInt 4 by decide +kernel⟩
    · exact ⟨5, k4, rfl, show (5 : Int) = hashInt 5 by decide +kernel⟩
    · exact ⟨6, k5, rfl, show (6 : Int) = hashInt 6 by decide +kernel⟩
    · exact ⟨7, k6, rfl, show (7 : Int) = hashInt 7 by decide +kernel⟩
    · exact ⟨8, k7, rfl, show (8 : Int) = hashInt 8 by decide +kernel⟩
  · intro k n hn
    unfold countAt at hn
    by_cases h0 : k = 1
    · subst h0
      cases hn
      exact ⟨_, rfl, _, rfl⟩
    by_cases h1 : k = 2
    · subst h1
      cases hn
      exact ⟨_, rfl, _, rfl⟩
    by_cases h2 : k = 3
    · subst h2
      cases hn
      exact ⟨_, rfl, _, rfl⟩
    by_cases h3 : k = 4
    · subst h3
      cases hn
      exact ⟨_, rfl, _, rfl⟩
    by_cases h4 : k = 5
    · subst h4
      cases hn
      exact ⟨_, rfl, _, rfl⟩
    by_cases h5 : k = 6
    · subst h5
      cases hn
      exact ⟨_, rfl, _, rfl⟩
    by_cases h6 : k = 7
    · subst h6
      cases hn
      exact ⟨_, rfl, _, rfl⟩
    by_cases h7 : k = 8
    · subst h7
      cases hn
      exact ⟨_, rfl, _, rfl⟩
    rw [if_neg h0, if_neg h1, if_neg h2, if_neg h3, if_neg h4, if_neg h5, if_neg h6, if_neg h7] at hn
    cases hn
/-- **the whole program by its written part** -/
theorem all_mk {fa : Addr} {fAn : Addr} {ocA : Value} {odA anA : Option Addr} {oslA : Array (Option Value)} {kVA dcA pmA cdA ctA : Value} {C fI : Addr} {nm q : Str} {N : Addr} {bs : List Value} {sn : List Str} {sub : List Value} {ab : Bool} {col : Option Bool} {dd : Option Addr} {m0 m1 m2 m3 m5 : Option Value} {oc : Value} {od an : Option Addr} {osl : Array (Option Value)} {dc pm cd ct : Value} {Ctok ftok : Addr} {octok : Value} {odtok antok : Option Addr} {osltok : Array (Option Value)} {kVtok dctok pmtok cdtok cttok : Value} {Cmea fmea : Addr} {ocmea : Value} {odmea anmea : Option Addr} {oslmea : Array (Option Value)} {kVmea dcmea pmmea cdmea ctmea : Value} {Citm fitm : Addr} {ocitm : Value} {oditm anitm : Option Addr} {oslitm : Array (Option Value)} {kVitm dcitm pmitm cditm ctitm : Value} {Clst flst : Addr} {oclst : Value} {odlst anlst : Option Addr} {osllst : Array (Option Value)} {kVlst dclst pmlst cdlst ctlst : Value} {Crdr frdr : Addr} {ocrdr : Value} {odrdr anrdr : Option Addr} {oslrdr : Array (Option Value)} {kVrdr dcrdr pmrdr cdrdr ctrdr : Value} {Chol fhol : Addr} {ochol : Value} {odhol anhol : Option Addr} {oslhol : Array (Option Value)} {kVhol dchol pmhol cdhol cthol : Value} {flst_numbers : Addr} {oclst_numbers : Value} {odlst_numbers anlst_numbers : Option Addr} {osllst_numbers : Array (Option Value)} {kVlst_numbers dclst_numbers pmlst_numbers cdlst_numbers ctlst_numbers : Value} {flst_has_item : Addr} {oclst_has_item : Value} {odlst_has_item anlst_has_item : Option Addr} {osllst_has_item : Array (Option Value)} {kVlst_has_item dclst_has_item pmlst_has_item cdlst_has_item ctlst_has_item : Value} {flst_has_measure : Addr} {oclst_has_measure : Value} {odlst_has_measure anlst_has_measure : Option Addr} {osllst_has_measure : Array (Option Value)} {kVlst_has_measure dclst_has_measure pmlst_has_measure cdlst_has_measure ctlst_has_measure : Value} {frdr_take : Addr} {ocrdr_take : Value} {odrdr_take anrdr_take : Option Addr} {oslrdr_take : Array (Option Value)} {kVrdr_take dcrdr_take pmrdr_take cdrdr_take ctrdr_take : Value} {fhol_load : Addr} {ochol_load : Value} {odhol_load anhol_load : Option Addr} {oslhol_load : Array (Option Value)} {kVhol_load dchol_load pmhol_load cdhol_load cthol_load : Value} {fhol_answer : Addr} {ochol_answer : Value} {odhol_answer anhol_answer : Option Addr} {oslhol_answer : Array (Option Value)} {kVhol_answer dchol_answer pmhol_answer cdhol_answer cthol_answer : Value} {tMOST_BYTES : Tok} {tMOST_NAME_BYTES : Tok} {tMOST_NUMBER : Tok} {tLINE_END : Tok} {tREMARK_SIGN : Tok} {tMOST_MEASURES : Tok} {tMOST_ITEMS : Tok} {tMOST_VALUE : Tok} {tLOAD : Tok} {tSHOWN : Tok} {tBEATS : Tok} {tBEST : Tok} {tLAYERS : Tok} {tBEATERS : Tok} {tBEATEN : Tok} {tGAIN : Tok} {aBl aSi aWo aCo aDi aLo : Addr} {nBl nWo : Nat} {nSi nCo : Nat} {tb0 tb1 tb2 : Tok} {dBl dWo : Option Addr} {sBl sWo : Array (Option Value)} {tw0 tw1 tw2 tw3 : Tok} {ks0 vs0 : Tok} {ks1 vs1 : Tok} {ks2 vs2 : Tok} {ks3 vs3 : Tok} {kc0 vc0 : Tok} {kc1 vc1 : Tok} {kc2 vc2 : Tok} {kc3 vc3 : Tok} {kc4 vc4 : Tok} {kc5 vc5 : Tok} {kc6 vc6 : Tok} {kc7 vc7 : Tok} (X : K.In h) (G : h.Ns mainGlobals mg) (hfa : mg "answers" = some (.ref fa))
    (D_lead : Dn K mg "lead" s_lead ["measure", "value", "other"])
    (D_is_better : Dn K mg "is_better" s_is_better ["measure", "value", "other"])
    (D_row_beats : Dn K mg "row_beats" s_row_beats ["measures", "row", "other_row"])
    (D_beats : Dn K mg "beats" s_beats ["listing", "number", "other"])
    (D_are_same : Dn K mg "are_same" s_are_same ["listing", "number", "other"])
    (D_is_unbeaten : Dn K mg "is_unbeaten" s_is_unbeaten ["listing", "number", "among"])
    (D_unbeaten_among : Dn K mg "unbeaten_among" s_unbeaten_among ["listing", "among"])
    (D_beaters_of : Dn K mg "beaters_of" s_beaters_of ["listing", "number"])
    (D_beaten_by : Dn K mg "beaten_by" s_beaten_by ["listing", "number"])
    (D_reasons_of : Dn K mg "reasons_of" s_reasons_of ["listing", "number"])
    (D_layers_of : Dn K mg "layers_of" s_layers_of ["listing"])
    (D_layer_number : Dn K mg "layer_number" s_layer_number ["listing", "number"])
    (D_same_but_at : Dn K mg "same_but_at" s_same_but_at ["row", "other_row", "measure_number"])
    (D_gain_against : Dn K mg "gain_against" s_gain_against ["listing", "number", "beater", "measure_number"])
    (D_gain_of : Dn K mg "gain_of" s_gain_of ["listing", "number", "measure_number"])
    (D_bytes_of : Dn K mg "bytes_of" s_bytes_of ["text"])
    (D_is_digit : Dn K mg "is_digit" s_is_digit ["byte"])
    (D_is_letter : Dn K mg "is_letter" s_is_letter ["byte"])
    (D_is_letter_or_digit : Dn K mg "is_letter_or_digit" s_is_letter_or_digit ["byte"])
    (D_run_end : Dn K mg "run_end" s_run_end ["text", "at", "belongs"])
    (D_remark_end : Dn K mg "remark_end" s_remark_end ["text", "at"])
    (D_skip_gap : Dn K mg "skip_gap" s_skip_gap ["text", "at"])
    (D_token_end : Dn K mg "token_end" s_token_end ["text", "at"])
    (D_word_or_name : Dn K mg "word_or_name" s_word_or_name ["piece", "place"])
    (D_number_token : Dn K mg "number_token" s_number_token ["digits", "place"])
    (D_token_of : Dn K mg "token_of" s_token_of ["piece", "place"])
    (D_tokens_of : Dn K mg "tokens_of" s_tokens_of ["text"])
    (D_check_new : Dn K mg "check_new" s_check_new ["token", "bearers"])
    (D_check_room : Dn K mg "check_room" s_check_room ["token", "told", "most"])
    (D_read_measure : Dn K mg "read_measure" s_read_measure ["reader", "earlier"])
    (D_read_measures : Dn K mg "read_measures" s_read_measures ["reader"])
    (D_read_value : Dn K mg "read_value" s_read_value ["reader"])
    (D_read_row : Dn K mg "read_row" s_read_row ["reader", "size"])
    (D_read_members : Dn K mg "read_members" s_read_members ["reader", "size"])
    (D_read_list : Dn K mg "read_list" s_read_list ["text"])
    (D_with_commas : Dn K mg "with_commas" s_with_commas ["parts"])
    (D_measure_part : Dn K mg "measure_part" s_measure_part ["measure"])
    (D_measures_line : Dn K mg "measures_line" s_measures_line ["measures"])
    (D_item_line : Dn K mg "item_line" s_item_line ["item"])
    (D_one_form : Dn K mg "one_form" s_one_form ["listing"])
    (D_counted : Dn K mg "counted" s_counted ["numbers"])
    (D_compared : Dn K mg "compared" s_compared ["listing", "number", "other"])
    (D_layers_told : Dn K mg "layers_told" s_layers_told ["listing"])
    (D_beaters_told : Dn K mg "beaters_told" s_beaters_told ["listing", "number"])
    (D_gain_told : Dn K mg "gain_told" s_gain_told ["listing", "number", "measure_number"])
    (D_item_told : Dn K mg "item_told" s_item_told ["listing", "number"])
    (D_answer_about_item : Dn K mg "answer_about_item" s_answer_about_item ["listing", "call"])
    (D_answer_about : Dn K mg "answer_about" s_answer_about ["listing", "call"])
    (D_call_end : Dn K mg "call_end" s_call_end ["calls", "at"])
    (za : PySem.W.nsIn K mainGlobals "answers" = some (some (.ref fAn))) (zl : K.lookup fAn = some ⟨ocA, odA, .func (PySem.W.fnOf "answers" "answers" (defArgs s_answers) (defBody s_answers) (defScope s_answers) .none kVA dcA pmA anA cdA ctA), oslA⟩) (zc : PySem.W.codeIn K cdA "answers" = true) (zk : PySem.W.keepIn K (.ref fAn) = true)
    (zF : PySem.W.nsIn K mainGlobals "Fault" = some (some (.ref C)))
    (zFx : K.lookup C = some (excClassObj nm q C N bs PySem.FltX.exMro true sn sub ab col dd m0 m1 m2 m3 m5 "Exception.__new__"))
    (zFsa : PySem.W.findIn K (.ref C) "__setattr__" = some (some (.builtin "object.__setattr__")))
    (zFga : PySem.W.findIn K (.ref C) "__getattribute__" = some (some (.builtin "BaseException.__getattribute__")))
    (zFgg : PySem.W.findIn K (.ref C) "__getattr__" = some none)
    (zFc : PySem.W.findIn K (.ref C) "code" = some none)
    (zFp : PySem.W.findIn K (.ref C) "place" = some none)
    (zFi : PySem.W.findIn K (.ref C) "__init__" = some (some (.ref fI)))
    (zFt : PySem.W.typeIn K (.ref fI) = some (.type "function"))
    (zFl : K.lookup fI = some ⟨oc, od, .func (PySem.W.fnOf "__init__" "Fault.__init__" PySem.FltX.fArgs PySem.FltX.fBody PySem.FltX.fScope .none .none dc pm an cd ct), osl⟩)
    (zFcd : PySem.W.codeIn K cd "Fault.__init__" = true)
    (zFk : PySem.W.keepIn K (.ref C) = true)
    (zFe : PySem.W.subIn K (.ref C) (.type "BaseException") = some true)
    (zFty : PySem.W.typeIn K (.ref C) = some (.type "type"))
    (zFh : PySem.W.hasDictIn K C = true)
    (zFcl : PySem.W.isClsIn K C = true)
    (zFs : PySem.W.subIn K (.ref C) (.ref C) = some true)
    (ztok : PySem.W.nsIn K mainGlobals "Token" = some (some (.ref Ctok)))
    (ztokpg : PySem.W.plainGet K Ctok Str.empty = true)
    (ztokhd : PySem.W.hasDictIn K Ctok = true)
    (ztokpo : PySem.W.plainOver K Ctok = true)
    (ztoksa : PySem.W.findIn K (.ref Ctok) "__setattr__" = some (some (.builtin "object.__setattr__")))
    (ztokms : PySem.W.makesIn K Ctok = true)
    (ztokkC : PySem.W.keepIn K (.ref Ctok) = true)
    (ztokin : PySem.W.findIn K (.ref Ctok) "__init__" = some (some (.ref ftok)))
    (ztokif : PySem.W.isFn K (.ref ftok) = true)
    (ztokl : K.lookup ftok = some ⟨octok, odtok, .func (PySem.W.fnOf "__init__" "Token.__init__" (defArgs s_Token_init) (defBody s_Token_init) (defScope s_Token_init) .none kVtok dctok pmtok antok cdtok cttok), osltok⟩)
    (ztokc : PySem.W.codeIn K cdtok "Token.__init__" = true)
    (ztokk : PySem.W.keepIn K (.ref ftok) = true)
    (zmea : PySem.W.nsIn K mainGlobals "Measure" = some (some (.ref Cmea)))
    (zmeapg : PySem.W.plainGet K Cmea Str.empty = true)
    (zmeahd : PySem.W.hasDictIn K Cmea = true)
    (zmeapo : PySem.W.plainOver K Cmea = true)
    (zmeasa : PySem.W.findIn K (.ref Cmea) "__setattr__" = some (some (.builtin "object.__setattr__")))
    (zmeams : PySem.W.makesIn K Cmea = true)
    (zmeakC : PySem.W.keepIn K (.ref Cmea) = true)
    (zmeain : PySem.W.findIn K (.ref Cmea) "__init__" = some (some (.ref fmea)))
    (zmeaif : PySem.W.isFn K (.ref fmea) = true)
    (zmeal : K.lookup fmea = some ⟨ocmea, odmea, .func (PySem.W.fnOf "__init__" "Measure.__init__" (defArgs s_Measure_init) (defBody s_Measure_init) (defScope s_Measure_init) .none kVmea dcmea pmmea anmea cdmea ctmea), oslmea⟩)
    (zmeac : PySem.W.codeIn K cdmea "Measure.__init__" = true)
    (zmeak : PySem.W.keepIn K (.ref fmea) = true)
    (zitm : PySem.W.nsIn K mainGlobals "Item" = some (some (.ref Citm)))
    (zitmpg : PySem.W.plainGet K Citm Str.empty = true)
    (zitmhd : PySem.W.hasDictIn K Citm = true)
    (zitmpo : PySem.W.plainOver K Citm = true)
    (zitmsa : PySem.W.findIn K (.ref Citm) "__setattr__" = some (some (.builtin "object.__setattr__")))
    (zitmms : PySem.W.makesIn K Citm = true)
    (zitmkC : PySem.W.keepIn K (.ref Citm) = true)
    (zitmin : PySem.W.findIn K (.ref Citm) "__init__" = some (some (.ref fitm)))
    (zitmif : PySem.W.isFn K (.ref fitm) = true)
    (zitml : K.lookup fitm = some ⟨ocitm, oditm, .func (PySem.W.fnOf "__init__" "Item.__init__" (defArgs s_Item_init) (defBody s_Item_init) (defScope s_Item_init) .none kVitm dcitm pmitm anitm cditm ctitm), oslitm⟩)
    (zitmc : PySem.W.codeIn K cditm "Item.__init__" = true)
    (zitmk : PySem.W.keepIn K (.ref fitm) = true)
    (zlst : PySem.W.nsIn K mainGlobals "Listing" = some (some (.ref Clst)))
    (zlstpg : PySem.W.plainGet K Clst Str.empty = true)
    (zlsthd : PySem.W.hasDictIn K Clst = true)
    (zlstpo : PySem.W.plainOver K Clst = true)
    (zlstsa : PySem.W.findIn K (.ref Clst) "__setattr__" = some (some (.builtin "object.__setattr__")))
    (zlstms : PySem.W.makesIn K Clst = true)
    (zlstkC : PySem.W.keepIn K (.ref Clst) = true)
    (zlstin : PySem.W.findIn K (.ref Clst) "__init__" = some (some (.ref flst)))
    (zlstif : PySem.W.isFn K (.ref flst) = true)
    (zlstl : K.lookup flst = some ⟨oclst, odlst, .func (PySem.W.fnOf "__init__" "Listing.__init__" (defArgs s_Listing_init) (defBody s_Listing_init) (defScope s_Listing_init) .none kVlst dclst pmlst anlst cdlst ctlst), osllst⟩)
    (zlstc : PySem.W.codeIn K cdlst "Listing.__init__" = true)
    (zlstk : PySem.W.keepIn K (.ref flst) = true)
    (zrdr : PySem.W.nsIn K mainGlobals "Reader" = some (some (.ref Crdr)))
    (zrdrpg : PySem.W.plainGet K Crdr Str.empty = true)
    (zrdrhd : PySem.W.hasDictIn K Crdr = true)
    (zrdrpo : PySem.W.plainOver K Crdr = true)
    (zrdrsa : PySem.W.findIn K (.ref Crdr) "__setattr__" = some (some (.builtin "object.__setattr__")))
    (zrdrms : PySem.W.makesIn K Crdr = true)
    (zrdrkC : PySem.W.keepIn K (.ref Crdr) = true)
    (zrdrin : PySem.W.findIn K (.ref Crdr) "__init__" = some (some (.ref frdr)))
    (zrdrif : PySem.W.isFn K (.ref frdr) = true)
    (zrdrl : K.lookup frdr = some ⟨ocrdr, odrdr, .func (PySem.W.fnOf "__init__" "Reader.__init__" (defArgs s_Reader_init) (defBody s_Reader_init) (defScope s_Reader_init) .none kVrdr dcrdr pmrdr anrdr cdrdr ctrdr), oslrdr⟩)
    (zrdrc : PySem.W.codeIn K cdrdr "Reader.__init__" = true)
    (zrdrk : PySem.W.keepIn K (.ref frdr) = true)
    (zhol : PySem.W.nsIn K mainGlobals "Holder" = some (some (.ref Chol)))
    (zholpg : PySem.W.plainGet K Chol Str.empty = true)
    (zholhd : PySem.W.hasDictIn K Chol = true)
    (zholpo : PySem.W.plainOver K Chol = true)
    (zholsa : PySem.W.findIn K (.ref Chol) "__setattr__" = some (some (.builtin "object.__setattr__")))
    (zholms : PySem.W.makesIn K Chol = true)
    (zholkC : PySem.W.keepIn K (.ref Chol) = true)
    (zholin : PySem.W.findIn K (.ref Chol) "__init__" = some (some (.ref fhol)))
    (zholif : PySem.W.isFn K (.ref fhol) = true)
    (zholl : K.lookup fhol = some ⟨ochol, odhol, .func (PySem.W.fnOf "__init__" "Holder.__init__" (defArgs s_Holder_init) (defBody s_Holder_init) (defScope s_Holder_init) .none kVhol dchol pmhol anhol cdhol cthol), oslhol⟩)
    (zholc : PySem.W.codeIn K cdhol "Holder.__init__" = true)
    (zholk : PySem.W.keepIn K (.ref fhol) = true)
    (znTk : PySem.W.findIn K (.ref Ctok) "kind" = some none)
    (znTp : PySem.W.findIn K (.ref Ctok) "place" = some none)
    (znTs : PySem.W.findIn K (.ref Ctok) "said" = some none)
    (znMn : PySem.W.findIn K (.ref Cmea) "name" = some none)
    (znMu : PySem.W.findIn K (.ref Cmea) "up" = some none)
    (znIn : PySem.W.findIn K (.ref Citm) "name" = some none)
    (znIr : PySem.W.findIn K (.ref Citm) "row" = some none)
    (znLm : PySem.W.findIn K (.ref Clst) "measures" = some none)
    (znLi : PySem.W.findIn K (.ref Clst) "members" = some none)
    (znRt : PySem.W.findIn K (.ref Crdr) "tokens" = some none)
    (znRa : PySem.W.findIn K (.ref Crdr) "at" = some none)
    (znHh : PySem.W.findIn K (.ref Chol) "held" = some none)
    (zlst_numbersat : PySem.W.findIn K (.ref Clst) "numbers" = some (some (.ref flst_numbers)))
    (zlst_numbersif : PySem.W.isFn K (.ref flst_numbers) = true)
    (zlst_numbersl : K.lookup flst_numbers = some ⟨oclst_numbers, odlst_numbers, .func (PySem.W.fnOf "numbers" "Listing.numbers" (defArgs s_Listing_numbers) (defBody s_Listing_numbers) (defScope s_Listing_numbers) .none kVlst_numbers dclst_numbers pmlst_numbers anlst_numbers cdlst_numbers ctlst_numbers), osllst_numbers⟩)
    (zlst_numbersc : PySem.W.codeIn K cdlst_numbers "Listing.numbers" = true)
    (zlst_numbersk : PySem.W.keepIn K (.ref flst_numbers) = true)
    (zlst_has_itemat : PySem.W.findIn K (.ref Clst) "has_item" = some (some (.ref flst_has_item)))
    (zlst_has_itemif : PySem.W.isFn K (.ref flst_has_item) = true)
    (zlst_has_iteml : K.lookup flst_has_item = some ⟨oclst_has_item, odlst_has_item, .func (PySem.W.fnOf "has_item" "Listing.has_item" (defArgs s_Listing_has_item) (defBody s_Listing_has_item) (defScope s_Listing_has_item) .none kVlst_has_item dclst_has_item pmlst_has_item anlst_has_item cdlst_has_item ctlst_has_item), osllst_has_item⟩)
    (zlst_has_itemc : PySem.W.codeIn K cdlst_has_item "Listing.has_item" = true)
    (zlst_has_itemk : PySem.W.keepIn K (.ref flst_has_item) = true)
    (zlst_has_measureat : PySem.W.findIn K (.ref Clst) "has_measure" = some (some (.ref flst_has_measure)))
    (zlst_has_measureif : PySem.W.isFn K (.ref flst_has_measure) = true)
    (zlst_has_measurel : K.lookup flst_has_measure = some ⟨oclst_has_measure, odlst_has_measure, .func (PySem.W.fnOf "has_measure" "Listing.has_measure" (defArgs s_Listing_has_measure) (defBody s_Listing_has_measure) (defScope s_Listing_has_measure) .none kVlst_has_measure dclst_has_measure pmlst_has_measure anlst_has_measure cdlst_has_measure ctlst_has_measure), osllst_has_measure⟩)
    (zlst_has_measurec : PySem.W.codeIn K cdlst_has_measure "Listing.has_measure" = true)
    (zlst_has_measurek : PySem.W.keepIn K (.ref flst_has_measure) = true)
    (zrdr_takeat : PySem.W.findIn K (.ref Crdr) "take" = some (some (.ref frdr_take)))
    (zrdr_takeif : PySem.W.isFn K (.ref frdr_take) = true)
    (zrdr_takel : K.lookup frdr_take = some ⟨ocrdr_take, odrdr_take, .func (PySem.W.fnOf "take" "Reader.take" (defArgs s_Reader_take) (defBody s_Reader_take) (defScope s_Reader_take) .none kVrdr_take dcrdr_take pmrdr_take anrdr_take cdrdr_take ctrdr_take), oslrdr_take⟩)
    (zrdr_takec : PySem.W.codeIn K cdrdr_take "Reader.take" = true)
    (zrdr_takek : PySem.W.keepIn K (.ref frdr_take) = true)
    (zhol_loadat : PySem.W.findIn K (.ref Chol) "load" = some (some (.ref fhol_load)))
    (zhol_loadif : PySem.W.isFn K (.ref fhol_load) = true)
    (zhol_loadl : K.lookup fhol_load = some ⟨ochol_load, odhol_load, .func (PySem.W.fnOf "load" "Holder.load" (defArgs s_Holder_load) (defBody s_Holder_load) (defScope s_Holder_load) .none kVhol_load dchol_load pmhol_load anhol_load cdhol_load cthol_load), oslhol_load⟩)
    (zhol_loadc : PySem.W.codeIn K cdhol_load "Holder.load" = true)
    (zhol_loadk : PySem.W.keepIn K (.ref fhol_load) = true)
    (zhol_answerat : PySem.W.findIn K (.ref Chol) "answer" = some (some (.ref fhol_answer)))
    (zhol_answerif : PySem.W.isFn K (.ref fhol_answer) = true)
    (zhol_answerl : K.lookup fhol_answer = some ⟨ochol_answer, odhol_answer, .func (PySem.W.fnOf "answer" "Holder.answer" (defArgs s_Holder_answer) (defBody s_Holder_answer) (defScope s_Holder_answer) .none kVhol_answer dchol_answer pmhol_answer anhol_answer cdhol_answer cthol_answer), oslhol_answer⟩)
    (zhol_answerc : PySem.W.codeIn K cdhol_answer "Holder.answer" = true)
    (zhol_answerk : PySem.W.keepIn K (.ref fhol_answer) = true)
    (zMOST_BYTES : PySem.W.nsIn K mainGlobals "MOST_BYTES" = some (some (.int 4096 tMOST_BYTES)))
    (zMOST_NAME_BYTES : PySem.W.nsIn K mainGlobals "MOST_NAME_BYTES" = some (some (.int 16 tMOST_NAME_BYTES)))
    (zMOST_NUMBER : PySem.W.nsIn K mainGlobals "MOST_NUMBER" = some (some (.int 1000000000 tMOST_NUMBER)))
    (zLINE_END : PySem.W.nsIn K mainGlobals "LINE_END" = some (some (.int 10 tLINE_END)))
    (zREMARK_SIGN : PySem.W.nsIn K mainGlobals "REMARK_SIGN" = some (some (.int 35 tREMARK_SIGN)))
    (zMOST_MEASURES : PySem.W.nsIn K mainGlobals "MOST_MEASURES" = some (some (.int 4 tMOST_MEASURES)))
    (zMOST_ITEMS : PySem.W.nsIn K mainGlobals "MOST_ITEMS" = some (some (.int 16 tMOST_ITEMS)))
    (zMOST_VALUE : PySem.W.nsIn K mainGlobals "MOST_VALUE" = some (some (.int 1000 tMOST_VALUE)))
    (zLOAD : PySem.W.nsIn K mainGlobals "LOAD" = some (some (.int 0 tLOAD)))
    (zSHOWN : PySem.W.nsIn K mainGlobals "SHOWN" = some (some (.int 1 tSHOWN)))
    (zBEATS : PySem.W.nsIn K mainGlobals "BEATS" = some (some (.int 2 tBEATS)))
    (zBEST : PySem.W.nsIn K mainGlobals "BEST" = some (some (.int 3 tBEST)))
    (zLAYERS : PySem.W.nsIn K mainGlobals "LAYERS" = some (some (.int 4 tLAYERS)))
    (zBEATERS : PySem.W.nsIn K mainGlobals "BEATERS" = some (some (.int 5 tBEATERS)))
    (zBEATEN : PySem.W.nsIn K mainGlobals "BEATEN" = some (some (.int 6 tBEATEN)))
    (zGAIN : PySem.W.nsIn K mainGlobals "GAIN" = some (some (.int 7 tGAIN)))
    (zBLANKS : PySem.W.nsIn K mainGlobals "BLANKS" = some (some (.ref aBl)))
    (zSIGNS : PySem.W.nsIn K mainGlobals "SIGNS" = some (some (.ref aSi)))
    (zWORDS : PySem.W.nsIn K mainGlobals "WORDS" = some (some (.ref aWo)))
    (zARGUMENT_COUNTS : PySem.W.nsIn K mainGlobals "ARGUMENT_COUNTS" = some (some (.ref aCo)))
    (zis_digit : PySem.W.nsIn K mainGlobals "is_digit" = some (some (.ref aDi)))
    (zis_letter_or_digit : PySem.W.nsIn K mainGlobals "is_letter_or_digit" = some (some (.ref aLo)))
    (zdl : (aDi == aLo) = false)
    (zlBl : K.lookup aBl = some ⟨.type "tuple", dBl, .seq #[.int 32 tb0, .int 9 tb1, .int 10 tb2] nBl, sBl⟩)
    (zlWo : K.lookup aWo = some ⟨.type "tuple", dWo, .seq #[.str "measures" tw0, .str "up" tw1, .str "down" tw2, .str "item" tw3] nWo, sWo⟩)
    (zlSi : K.lookup aSi = some ⟨.type "dict", none, .dict #[⟨44, .int 44 ks0, .str "," vs0⟩, ⟨58, .int 58 ks1, .str ":" vs1⟩, ⟨59, .int 59 ks2, .str ";" vs2⟩, ⟨45, .int 45 ks3, .str "-" vs3⟩] nSi, #[]⟩)
    (zlCo : K.lookup aCo = some ⟨.type "dict", none, .dict #[⟨1, .int 1 kc0, .int 0 vc0⟩, ⟨2, .int 2 kc1, .int 2 vc1⟩, ⟨3, .int 3 kc2, .int 0 vc2⟩, ⟨4, .int 4 kc3, .int 0 vc3⟩, ⟨5, .int 5 kc4, .int 1 vc4⟩, ⟨6, .int 6 kc5, .int 1 vc5⟩, ⟨7, .int 7 kc6, .int 2 vc6⟩, ⟨8, .int 8 kc7, .int 1 vc7⟩] nCo, #[]⟩)
    (zsSi : (aSi == sysModules) = false)
    (zsCo : (aCo == sysModules) = false)
    (zlen : PySem.W.nsIn K mainGlobals "len" = some none)
    (zord : PySem.W.nsIn K mainGlobals "ord" = some none)
    (zstr : PySem.W.nsIn K mainGlobals "str" = some none)
    (zlist : PySem.W.nsIn K mainGlobals "list" = some none)
    (zrange : PySem.W.nsIn K mainGlobals "range" = some none)
    (zmax : PySem.W.nsIn K mainGlobals "max" = some none)
    (zzip : PySem.W.nsIn K mainGlobals "zip" = some none)
    (zenumerate : PySem.W.nsIn K mainGlobals "enumerate" = some none)
    : ∃ fd : FuncData, (∀ (s : Shared) (us : List Value), us.length = (["calls"] : List Str).length → BindsTo s fd ⟨us, []⟩ ((["calls"] : List Str).zip us)) ∧ ∀ base : Heap, K.In base → base.Ns mainGlobals mg → FnOk P w K mg base CX0 13 fa fd ["calls"] (spAnswers K) := by
  have e := hfa.symm.trans (PySem.W.mg_of X G za)
  cases e
  have flt : PySem.FltX.FltTxt K mg C fI := { gC := PySem.W.mg_of X G zF, cls := ⟨nm, q, N, bs, sn, sub, ab, col, dd, m0, m1, m2, m3, m5, zFx⟩, sa := zFsa, ga := zFga, gg := zFgg, noC := zFc, noP := zFp, iC := zFi, tC := zFt, kC := zFk, exC := zFe, tyC := zFty, hdC := zFh, te := exm_own zFe zFcl zFty zFs, fn := ⟨_, _, _, _, _, _, _, _, zFl, zFcd⟩ }
  have T : Txt K mg ⟨C, fI, Ctok, Cmea, Citm, Clst, Crdr, Chol, aBl, aSi, aWo, aCo, aDi, aLo⟩ :=
    { flt := flt,
      cT := ⟨ztokpg, ztokhd, ztokpo, ztoksa⟩,
      cM := ⟨zmeapg, zmeahd, zmeapo, zmeasa⟩,
      cI := ⟨zitmpg, zitmhd, zitmpo, zitmsa⟩,
      cL := ⟨zlstpg, zlsthd, zlstpo, zlstsa⟩,
      cR := ⟨zrdrpg, zrdrhd, zrdrpo, zrdrsa⟩,
      cH := ⟨zholpg, zholhd, zholpo, zholsa⟩,
      nTk := znTk,
      nTp := znTp,
      nTs := znTs,
      nMn := znMn,
      nMu := znMu,
      nIn := znIn,
      nIr := znIr,
      nLm := znLm,
      nLi := znLi,
      nRt := znRt,
      nRa := znRa,
      nHh := znHh,
      gMOST_BYTES := ⟨_, PySem.W.mg_of X G zMOST_BYTES⟩,
      gMOST_NAME_BYTES := ⟨_, PySem.W.mg_of X G zMOST_NAME_BYTES⟩,
      gMOST_NUMBER := ⟨_, PySem.W.mg_of X G zMOST_NUMBER⟩,
      gLINE_END := ⟨_, PySem.W.mg_of X G zLINE_END⟩,
      gREMARK_SIGN := ⟨_, PySem.W.mg_of X G zREMARK_SIGN⟩,
      gMOST_MEASURES := ⟨_, PySem.W.mg_of X G zMOST_MEASURES⟩,
      gMOST_ITEMS := ⟨_, PySem.W.mg_of X G zMOST_ITEMS⟩,
      gMOST_VALUE := ⟨_, PySem.W.mg_of X G zMOST_VALUE⟩,
      gLOAD := ⟨_, PySem.W.mg_of X G zLOAD⟩,
      gSHOWN := ⟨_, PySem.W.mg_of X G zSHOWN⟩,
      gBEATS := ⟨_, PySem.W.mg_of X G zBEATS⟩,
      gBEST := ⟨_, PySem.W.mg_of X G zBEST⟩,
      gLAYERS := ⟨_, PySem.W.mg_of X G zLAYERS⟩,
      gBEATERS := ⟨_, PySem.W.mg_of X G zBEATERS⟩,
      gBEATEN := ⟨_, PySem.W.mg_of X G zBEATEN⟩,
      gGAIN := ⟨_, PySem.W.mg_of X G zGAIN⟩,
      gBLANKS := PySem.W.mg_of X G zBLANKS,
      gSIGNS := PySem.W.mg_of X G zSIGNS,
      gWORDS := PySem.W.mg_of X G zWORDS,
      gARGUMENT_COUNTS := PySem.W.mg_of X G zARGUMENT_COUNTS,
      gis_digit := PySem.W.mg_of X G zis_digit,
      gis_letter_or_digit := PySem.W.mg_of X G zis_letter_or_digit,
      ndl := fun z => by
        have z2 : aDi = aLo := z
        rw [z2] at zdl
        simp at zdl,
      blk := fun H => .inr ⟨_, _, _, zlBl, rfl, rfl, by rw [sizeLine_eq]; exact (by decide : 3 ≤ 16777216), .cons ⟨_, rfl⟩ (.cons ⟨_, rfl⟩ (.cons ⟨_, rfl⟩ .nil))⟩,
      wds := fun H => .inr ⟨_, _, _, zlWo, rfl, rfl, by rw [sizeLine_eq]; exact (by decide : 4 ≤ 16777216), .cons ⟨_, rfl⟩ (.cons ⟨_, rfl⟩ (.cons ⟨_, rfl⟩ (.cons ⟨_, rfl⟩ .nil)))⟩,
      sig := sig_of zlSi zsSi,
      cnt := cnt_of zlCo zsCo,
      len := PySem.W.mg_none_of X G zlen,
      ord := PySem.W.mg_none_of X G zord,
      str := PySem.W.mg_none_of X G zstr,
      list := PySem.W.mg_none_of X G zlist,
      range := PySem.W.mg_none_of X G zrange,
      max := PySem.W.mg_none_of X G zmax,
      zip := PySem.W.mg_none_of X G zzip,
      enumerate := PySem.W.mg_none_of X G zenumerate }
  refine ⟨PySem.W.fnOf "answers" "answers" (defArgs s_answers) (defBody s_answers) (defScope s_answers) .none kVA dcA pmA anA cdA ctA, fun s us hu => match us, hu with | [_], _ => .of_eq rfl, fun base _ _ => ?_⟩
  exact chain T D_lead D_is_better D_row_beats D_beats D_are_same D_is_unbeaten D_unbeaten_among D_beaters_of D_beaten_by D_reasons_of D_layers_of D_layer_number D_same_but_at D_gain_against D_gain_of D_bytes_of D_is_digit D_is_letter D_is_letter_or_digit D_run_end D_remark_end D_skip_gap D_token_end D_word_or_name D_number_token D_token_of D_tokens_of D_check_new D_check_room D_read_measure D_read_measures D_read_value D_read_row D_read_members D_read_list D_with_commas D_measure_part D_measures_line D_item_line D_one_form D_counted D_compared D_layers_told D_beaters_told D_gain_told D_item_told D_answer_about_item D_answer_about D_call_end 
    (mn_mk (fun _ _ _ _ _ _ us hl => match us, hl with | [_], _ => rfl) zlst_numbersat zlst_numbersif zlst_numbersl zlst_numbersc zlst_numbersk) 
    (mn_mk (fun _ _ _ _ _ _ us hl => match us, hl with | [_, _], _ => rfl) zlst_has_itemat zlst_has_itemif zlst_has_iteml zlst_has_itemc zlst_has_itemk) 
    (mn_mk (fun _ _ _ _ _ _ us hl => match us, hl with | [_, _], _ => rfl) zlst_has_measureat zlst_has_measureif zlst_has_measurel zlst_has_measurec zlst_has_measurek) 
    (mn_mk (fun _ _ _ _ _ _ us hl => match us, hl with | [_, _], _ => rfl) zrdr_takeat zrdr_takeif zrdr_takel zrdr_takec zrdr_takek) 
    (mn_mk (fun _ _ _ _ _ _ us hl => match us, hl with | [_, _], _ => rfl) zhol_loadat zhol_loadif zhol_loadl zhol_loadc zhol_loadk) 
    (mn_mk (fun _ _ _ _ _ _ us hl => match us, hl with | [_, _], _ => rfl) zhol_answerat zhol_answerif zhol_answerl zhol_answerc zhol_answerk) 
    (in_mk (PySem.W.mg_of X G ztok) (fun _ _ _ _ _ _ us hl => match us, hl with | [_, _, _, _], _ => rfl) ztokms ztokkC ztokin ztokif ztokl ztokc ztokk) 
    (in_mk (PySem.W.mg_of X G zmea) (fun _ _ _ _ _ _ us hl => match us, hl with | [_, _, _], _ => rfl) zmeams zmeakC zmeain zmeaif zmeal zmeac zmeak) 
    (in_mk (PySem.W.mg_of X G zitm) (fun _ _ _ _ _ _ us hl => match us, hl with | [_, _, _], _ => rfl) zitmms zitmkC zitmin zitmif zitml zitmc zitmk) 
    (in_mk (PySem.W.mg_of X G zlst) (fun _ _ _ _ _ _ us hl => match us, hl with | [_, _, _], _ => rfl) zlstms zlstkC zlstin zlstif zlstl zlstc zlstk) 
    (in_mk (PySem.W.mg_of X G zrdr) (fun _ _ _ _ _ _ us hl => match us, hl with | [_, _], _ => rfl) zrdrms zrdrkC zrdrin zrdrif zrdrl zrdrc zrdrk) 
    (in_mk (PySem.W.mg_of X G zhol) (fun _ _ _ _ _ _ us hl => match us, hl with | [_], _ => rfl) zholms zholkC zholin zholif zholl zholc zholk)
    (fun_mk zl zc zk) base
end
end Ub
open PySem PySem.W PyProof.Rows
set_option maxHeartbeats 0 in
theorem PySem.Challenge.cw_unbeaten_s01_answers_holds : PySem.Challenge.rw_unbeaten_s01_answers.Holds := by
  w_on; k_headS; (case hw => exact ⟨[.list [.int 3]], by decide +kernel, by decide +kernel⟩)
  k_fillS
  refine L2.walk_specK (r := PySem.Challenge.rw_unbeaten_s01_answers) (k := 13) (CX := L2.CX0) (ps := ["calls"]) (sp := Ub.spAnswers) (by decide +kernel) rfl rfl ⟨rfl, by decide, by decide⟩ (fun w h Y => PySem.W.kIn_of Y) ?F ?S (fun _ _ _ _ z => z)
  case F =>
    intro w mg fa h Y KX G hmg
    have D_lead : Ub.Dn (PySem.Challenge.cw_unbeaten_s01_answers_holds.heap_1 w.params) mg "lead" Ub.s_lead ["measure", "value", "other"] := by
      refine' Ub.dn_lead KX G ?a ?l ?c ?k; (case a => k_is); (case l => k_is); (case c => k_is); (case k => k_is)
    have D_is_better : Ub.Dn (PySem.Challenge.cw_unbeaten_s01_answers_holds.heap_1 w.params) mg "is_better" Ub.s_is_better ["measure", "value", "other"] := by
      refine' Ub.dn_is_better KX G ?a ?l ?c ?k; (case a => k_is); (case l => k_is); (case c => k_is); (case k => k_is)
    have D_row_beats : Ub.Dn (PySem.Challenge.cw_unbeaten_s01_answers_holds.heap_1 w.params) mg "row_beats" Ub.s_row_beats ["measures", "row", "other_row"] := by
      refine' Ub.dn_row_beats KX G ?a ?l ?c ?k; (case a => k_is); (case l => k_is); (case c => k_is); (case k => k_is)
    have D_beats : Ub.Dn (PySem.Challenge.cw_unbeaten_s01_answers_holds.heap_1 w.params) mg "beats" Ub.s_beats ["listing", "number", "other"] := by
      refine' Ub.dn_beats KX G ?a ?l ?c ?k; (case a => k_is); (case l => k_is); (case c => k_is); (case k => k_is)
    have D_are_same : Ub.Dn (PySem.Challenge.cw_unbeaten_s01_answers_holds.heap_1 w.params) mg "are_same" Ub.s_are_same ["listing", "number", "other"] := by
      refine' Ub.dn_are_same KX G ?a ?l ?c ?k; (case a => k_is); (case l => k_is); (case c => k_is); (case k => k_is)
    have D_is_unbeaten : Ub.Dn (PySem.Challenge.cw_unbeaten_s01_answers_holds.heap_1 w.params) mg "is_unbeaten" Ub.s_is_unbeaten ["listing", "number", "among"] := by
      refine' Ub.dn_is_unbeaten KX G ?a ?l ?c ?k; (case a => k_is); (case l => k_is); (case c => k_is); (case k => k_is)
    have D_unbeaten_among : Ub.Dn (PySem.Challenge.cw_unbeaten_s01_answers_holds.heap_1 w.params) mg "unbeaten_among" Ub.s_unbeaten_among ["listing", "among"] := by
      refine' Ub.dn_unbeaten_among KX G ?a ?l ?c ?k; (case a => k_is); (case l => k_is); (case c => k_is); (case k => k_is)
    have D_beaters_of : Ub.Dn (PySem.Challenge.cw_unbeaten_s01_answers_holds.heap_1 w.params) mg "beaters_of" Ub.s_beaters_of ["listing", "number"] := by
      refine' Ub.dn_beaters_of KX G ?a ?l ?c ?k; (case a => k_is); (case l => k_is); (case c => k_is); (case k => k_is)
    have D_beaten_by : Ub.Dn (PySem.Challenge.cw_unbeaten_s01_answers_holds.heap_1 w.params) mg "beaten_by" Ub.s_beaten_by ["listing", "number"] := by
      refine' Ub.dn_beaten_by KX G ?a ?l ?c ?k; (case a => k_is); (case l => k_is); (case c => k_is); (case k => k_is)
    have D_reasons_of : Ub.Dn (PySem.Challenge.cw_unbeaten_s01_answers_holds.heap_1 w.params) mg "reasons_of" Ub.s_reasons_of ["listing", "number"] := by
      refine' Ub.dn_reasons_of KX G ?a ?l ?c ?k; (case a => k_is); (case l => k_is); (case c => k_is); (case k => k_is)
    have D_layers_of : Ub.Dn (PySem.Challenge.cw_unbeaten_s01_answers_holds.heap_1 w.params) mg "layers_of" Ub.s_layers_of ["listing"] := by
      refine' Ub.dn_layers_of KX G ?a ?l ?c ?k; (case a => k_is); (case l => k_is); (case c => k_is); (case k => k_is)
    have D_layer_number : Ub.Dn (PySem.Challenge.cw_unbeaten_s01_answers_holds.heap_1 w.params) mg "layer_number" Ub.s_layer_number ["listing", "number"] := by
      refine' Ub.dn_layer_number KX G ?a ?l ?c ?k; (case a => k_is); (case l => k_is); (case c => k_is); (case k => k_is)
    have D_same_but_at : Ub.Dn (PySem.Challenge.cw_unbeaten_s01_answers_holds.heap_1 w.params) mg "same_but_at" Ub.s_same_but_at ["row", "other_row", "measure_number"] := by
      refine' Ub.dn_same_but_at KX G ?a ?l ?c ?k; (case a => k_is); (case l => k_is); (case c => k_is); (case k => k_is)
    have D_gain_against : Ub.Dn (PySem.Challenge.cw_unbeaten_s01_answers_holds.heap_1 w.params) mg "gain_against" Ub.s_gain_against ["listing", "number", "beater", "measure_number"] := by
      refine' Ub.dn_gain_against KX G ?a ?l ?c ?k; (case a => k_is); (case l => k_is); (case c => k_is); (case k => k_is)
    have D_gain_of : Ub.Dn (PySem.Challenge.cw_unbeaten_s01_answers_holds.heap_1 w.params) mg "gain_of" Ub.s_gain_of ["listing", "number", "measure_number"] := by
      refine' Ub.dn_gain_of KX G ?a ?l ?c ?k; (case a => k_is); (case l => k_is); (case c => k_is); (case k => k_is)
    have D_bytes_of : Ub.Dn (PySem.Challenge.cw_unbeaten_s01_answers_holds.heap_1 w.params) mg "bytes_of" Ub.s_bytes_of ["text"] := by
      refine' Ub.dn_bytes_of KX G ?a ?l ?c ?k; (case a => k_is); (case l => k_is); (case c => k_is); (case k => k_is)
    have D_is_digit : Ub.Dn (PySem.Challenge.cw_unbeaten_s01_answers_holds.heap_1 w.params) mg "is_digit" Ub.s_is_digit ["byte"] := by
      refine' Ub.dn_is_digit KX G ?a ?l ?c ?k; (case a => k_is); (case l => k_is); (case c => k_is); (case k => k_is)
    have D_is_letter : Ub.Dn (PySem.Challenge.cw_unbeaten_s01_answers_holds.heap_1 w.params) mg "is_letter" Ub.s_is_letter ["byte"] := by
      refine' Ub.dn_is_letter KX G ?a ?l ?c ?k; (case a => k_is); (case l => k_is); (case c => k_is); (case k => k_is)
    have D_is_letter_or_digit : Ub.Dn (PySem.Challenge.cw_unbeaten_s01_answers_holds.heap_1 w.params) mg "is_letter_or_digit" Ub.s_is_letter_or_digit ["byte"] := by
      refine' Ub.dn_is_letter_or_digit KX G ?a ?l ?c ?k; (case a => k_is); (case l => k_is); (case c => k_is); (case k => k_is)
    have D_run_end : Ub.Dn (PySem.Challenge.cw_unbeaten_s01_answers_holds.heap_1 w.params) mg "run_end" Ub.s_run_end ["text", "at", "belongs"] := by
      refine' Ub.dn_run_end KX G ?a ?l ?c ?k; (case a => k_is); (case l => k_is); (case c => k_is); (case k => k_is)
    have D_remark_end : Ub.Dn (PySem.Challenge.cw_unbeaten_s01_answers_holds.heap_1 w.params) mg "remark_end" Ub.s_remark_end ["text", "at"] := by
      refine' Ub.dn_remark_end KX G ?a ?l ?c ?k; (case a => k_is); (case l => k_is); (case c => k_is); (case k => k_is)
    have D_skip_gap : Ub.Dn (PySem.Challenge.cw_unbeaten_s01_answers_holds.heap_1 w.params) mg "skip_gap" Ub.s_skip_gap ["text", "at"] := by
      refine' Ub.dn_skip_gap KX G ?a ?l ?c ?k; (case a => k_is); (case l => k_is); (case c => k_is); (case k => k_is)
    have D_token_end : Ub.Dn (PySem.Challenge.cw_unbeaten_s01_answers_holds.heap_1 w.params) mg "token_end" Ub.s_token_end ["text", "at"] := by
      refine' Ub.dn_token_end KX G ?a ?l ?c ?k; (case a => k_is); (case l => k_is); (case c => k_is); (case k => k_is)
    have D_word_or_name : Ub.Dn (PySem.Challenge.cw_unbeaten_s01_answers_holds.heap_1 w.params) mg "word_or_name" Ub.s_word_or_name ["piece", "place"] := by
      refine' Ub.dn_word_or_name KX G ?a ?l ?c ?k; (case a => k_is); (case l => k_is); (case c => k_is); (case k => k_is)
    have D_number_token : Ub.Dn (PySem.Challenge.cw_unbeaten_s01_answers_holds.heap_1 w.params) mg "number_token" Ub.s_number_token ["digits", "place"] := by
      refine' Ub.dn_number_token KX G ?a ?l ?c ?k; (case a => k_is); (case l => k_is); (case c => k_is); (case k => k_is)
    have D_token_of : Ub.Dn (PySem.Challenge.cw_unbeaten_s01_answers_holds.heap_1 w.params) mg "token_of" Ub.s_token_of ["piece", "place"] := by
      refine' Ub.dn_token_of KX G ?a ?l ?c ?k; (case a => k_is); (case l => k_is); (case c => k_is); (case k => k_is)
    have D_tokens_of : Ub.Dn (PySem.Challenge.cw_unbeaten_s01_answers_holds.heap_1 w.params) mg "tokens_of" Ub.s_tokens_of ["text"] := by
      refine' Ub.dn_tokens_of KX G ?a ?l ?c ?k; (case a => k_is); (case l => k_is); (case c => k_is); (case k => k_is)
    have D_check_new : Ub.Dn (PySem.Challenge.cw_unbeaten_s01_answers_holds.heap_1 w.params) mg "check_new" Ub.s_check_new ["token", "bearers"] := by
      refine' Ub.dn_check_new KX G ?a ?l ?c ?k; (case a => k_is); (case l => k_is); (case c => k_is); (case k => k_is)
    have D_check_room : Ub.Dn (PySem.Challenge.cw_unbeaten_s01_answers_holds.heap_1 w.params) mg "check_room" Ub.s_check_room ["token", "told", "most"] := by
      refine' Ub.dn_check_room KX G ?a ?l ?c ?k; (case a => k_is); (case l => k_is); (case c => k_is); (case k => k_is)
    have D_read_measure : Ub.Dn (PySem.Challenge.cw_unbeaten_s01_answers_holds.heap_1 w.params) mg "read_measure" Ub.s_read_measure ["reader", "earlier"] := by
      refine' Ub.dn_read_measure KX G ?a ?l ?c ?k; (case a => k_is); (case l => k_is); (case c => k_is); (case k => k_is)
    have D_read_measures : Ub.Dn (PySem.Challenge.cw_unbeaten_s01_answers_holds.heap_1 w.params) mg "read_measures" Ub.s_read_measures ["reader"] := by
      refine' Ub.dn_read_measures KX G ?a ?l ?c ?k; (case a => k_is); (case l => k_is); (case c => k_is); (case k => k_is)
    have D_read_value : Ub.Dn (PySem.Challenge.cw_unbeaten_s01_answers_holds.heap_1 w.params) mg "read_value" Ub.s_read_value ["reader"] := by
      refine' Ub.dn_read_value KX G ?a ?l ?c ?k; (case a => k_is); (case l => k_is); (case c => k_is); (case k => k_is)
    have D_read_row : Ub.Dn (PySem.Challenge.cw_unbeaten_s01_answers_holds.heap_1 w.params) mg "read_row" Ub.s_read_row ["reader", "size"] := by
      refine' Ub.dn_read_row KX G ?a ?l ?c ?k; (case a => k_is); (case l => k_is); (case c => k_is); (case k => k_is)
    have D_read_members : Ub.Dn (PySem.Challenge.cw_unbeaten_s01_answers_holds.heap_1 w.params) mg "read_members" Ub.s_read_members ["reader", "size"] := by
      refine' Ub.dn_read_members KX G ?a ?l ?c ?k; (case a => k_is); (case l => k_is); (case c => k_is); (case k => k_is)
    have D_read_list : Ub.Dn (PySem.Challenge.cw_unbeaten_s01_answers_holds.heap_1 w.params) mg "read_list" Ub.s_read_list ["text"] := by
      refine' Ub.dn_read_list KX G ?a ?l ?c ?k; (case a => k_is); (case l => k_is); (case c => k_is); (case k => k_is)
    have D_with_commas : Ub.Dn (PySem.Challenge.cw_unbeaten_s01_answers_holds.heap_1 w.params) mg "with_commas" Ub.s_with_commas ["parts"] := by
      refine' Ub.dn_with_commas KX G ?a ?l ?c ?k; (case a => k_is); (case l => k_is); (case c => k_is); (case k => k_is)
    have D_measure_part : Ub.Dn (PySem.Challenge.cw_unbeaten_s01_answers_holds.heap_1 w.params) mg "measure_part" Ub.s_measure_part ["measure"] := by
      refine' Ub.dn_measure_part KX G ?a ?l ?c ?k; (case a => k_is); (case l => k_is); (case c => k_is); (case k => k_is)
    have D_measures_line : Ub.Dn (PySem.Challenge.cw_unbeaten_s01_answers_holds.heap_1 w.params) mg "measures_line" Ub.s_measures_line ["measures"] := by
      refine' Ub.dn_measures_line KX G ?a ?l ?c ?k; (case a => k_is); (case l => k_is); (case c => k_is); (case k => k_is)
    have D_item_line : Ub.Dn (PySem.Challenge.cw_unbeaten_s01_answers_holds.heap_1 w.params) mg "item_line" Ub.s_item_line ["item"] := by
      refine' Ub.dn_item_line KX G ?a ?l ?c ?k; (case a => k_is); (case l => k_is); (case c => k_is); (case k => k_is)
    have D_one_form : Ub.Dn (PySem.Challenge.cw_unbeaten_s01_answers_holds.heap_1 w.params) mg "one_form" Ub.s_one_form ["listing"] := by
      refine' Ub.dn_one_form KX G ?a ?l ?c ?k; (case a => k_is); (case l => k_is); (case c => k_is); (case k => k_is)
    have D_counted : Ub.Dn (PySem.Challenge.cw_unbeaten_s01_answers_holds.heap_1 w.params) mg "counted" Ub.s_counted ["numbers"] := by
      refine' Ub.dn_counted KX G ?a ?l ?c ?k; (case a => k_is); (case l => k_is); (case c => k_is); (case k => k_is)
    have D_compared : Ub.Dn (PySem.Challenge.cw_unbeaten_s01_answers_holds.heap_1 w.params) mg "compared" Ub.s_compared ["listing", "number", "other"] := by
      refine' Ub.dn_compared KX G ?a ?l ?c ?k; (case a => k_is); (case l => k_is); (case c => k_is); (case k => k_is)
    have D_layers_told : Ub.Dn (PySem.Challenge.cw_unbeaten_s01_answers_holds.heap_1 w.params) mg "layers_told" Ub.s_layers_told ["listing"] := by
      refine' Ub.dn_layers_told KX G ?a ?l ?c ?k; (case a => k_is); (case l => k_is); (case c => k_is); (case k => k_is)
    have D_beaters_told : Ub.Dn (PySem.Challenge.cw_unbeaten_s01_answers_holds.heap_1 w.params) mg "beaters_told" Ub.s_beaters_told ["listing", "number"] := by
      refine' Ub.dn_beaters_told KX G ?a ?l ?c ?k; (case a => k_is); (case l => k_is); (case c => k_is); (case k => k_is)
    have D_gain_told : Ub.Dn (PySem.Challenge.cw_unbeaten_s01_answers_holds.heap_1 w.params) mg "gain_told" Ub.s_gain_told ["listing", "number", "measure_number"] := by
      refine' Ub.dn_gain_told KX G ?a ?l ?c ?k; (case a => k_is); (case l => k_is); (case c => k_is); (case k => k_is)
    have D_item_told : Ub.Dn (PySem.Challenge.cw_unbeaten_s01_answers_holds.heap_1 w.params) mg "item_told" Ub.s_item_told ["listing", "number"] := by
      refine' Ub.dn_item_told KX G ?a ?l ?c ?k; (case a => k_is); (case l => k_is); (case c => k_is); (case k => k_is)
    have D_answer_about_item : Ub.Dn (PySem.Challenge.cw_unbeaten_s01_answers_holds.heap_1 w.params) mg "answer_about_item" Ub.s_answer_about_item ["listing", "call"] := by
      refine' Ub.dn_answer_about_item KX G ?a ?l ?c ?k; (case a => k_is); (case l => k_is); (case c => k_is); (case k => k_is)
    have D_answer_about : Ub.Dn (PySem.Challenge.cw_unbeaten_s01_answers_holds.heap_1 w.params) mg "answer_about" Ub.s_answer_about ["listing", "call"] := by
      refine' Ub.dn_answer_about KX G ?a ?l ?c ?k; (case a => k_is); (case l => k_is); (case c => k_is); (case k => k_is)
    have D_call_end : Ub.Dn (PySem.Challenge.cw_unbeaten_s01_answers_holds.heap_1 w.params) mg "call_end" Ub.s_call_end ["calls", "at"] := by
      refine' Ub.dn_call_end KX G ?a ?l ?c ?k; (case a => k_is); (case l => k_is); (case c => k_is); (case k => k_is)
    refine' Ub.all_mk KX G hmg D_lead D_is_better D_row_beats D_beats D_are_same D_is_unbeaten D_unbeaten_among D_beaters_of D_beaten_by D_reasons_of D_layers_of D_layer_number D_same_but_at D_gain_against D_gain_of D_bytes_of D_is_digit D_is_letter D_is_letter_or_digit D_run_end D_remark_end D_skip_gap D_token_end D_word_or_name D_number_token D_token_of D_tokens_of D_check_new D_check_room D_read_measure D_read_measures D_read_value D_read_row D_read_members D_read_list D_with_commas D_measure_part D_measures_line D_item_line D_one_form D_counted D_compared D_layers_told D_beaters_told D_gain_told D_item_told D_answer_about_item D_answer_about D_call_end ?za ?zl ?zc ?zk ?zF ?zFx ?zFsa ?zFga ?zFgg ?zFc ?zFp ?zFi ?zFt ?zFl ?zFcd ?zFk ?zFe ?zFty ?zFh ?zFcl ?zFs ?ztok ?ztokpg ?ztokhd ?ztokpo ?ztoksa ?ztokms ?ztokkC ?ztokin ?ztokif ?ztokl ?ztokc ?ztokk ?zmea ?zmeapg ?zmeahd ?zmeapo ?zmeasa ?zmeams ?zmeakC ?zmeain ?zmeaif ?zmeal ?zmeac ?zmeak ?zitm ?zitmpg ?zitmhd ?zitmpo ?zitmsa ?zitmms ?zitmkC ?zitmin ?zitmif ?zitml ?zitmc ?zitmk ?zlst ?zlstpg ?zlsthd ?zlstpo ?zlstsa ?zlstms ?zlstkC ?zlstin ?zlstif ?zlstl ?zlstc ?zlstk ?zrdr ?zrdrpg ?zrdrhd ?zrdrpo ?zrdrsa ?zrdrms ?zrdrkC ?zrdrin ?zrdrif ?zrdrl ?zrdrc ?zrdrk ?zhol ?zholpg ?zholhd ?zholpo ?zholsa ?zholms ?zholkC ?zholin ?zholif ?zholl ?zholc ?zholk ?znTk ?znTp ?znTs ?znMn ?znMu ?znIn ?znIr ?znLm ?znLi ?znRt ?znRa ?znHh ?zlst_numbersat ?zlst_numbersif ?zlst_numbersl ?zlst_numbersc ?zlst_numbersk ?zlst_has_itemat ?zlst_has_itemif ?zlst_has_iteml ?zlst_has_itemc ?zlst_has_itemk ?zlst_has_measureat ?zlst_has_measureif ?zlst_has_measurel ?zlst_has_measurec ?zlst_has_measurek ?zrdr_takeat ?zrdr_takeif ?zrdr_takel ?zrdr_takec ?zrdr_takek ?zhol_loadat ?zhol_loadif ?zhol_loadl ?zhol_loadc ?zhol_loadk ?zhol_answerat ?zhol_answerif ?zhol_answerl ?zhol_answerc ?zhol_answerk ?zMOST_BYTES ?zMOST_NAME_BYTES ?zMOST_NUMBER ?zLINE_END ?zREMARK_SIGN ?zMOST_MEASURES ?zMOST_ITEMS ?zMOST_VALUE ?zLOAD ?zSHOWN ?zBEATS ?zBEST ?zLAYERS ?zBEATERS ?zBEATEN ?zGAIN ?zBLANKS ?zSIGNS ?zWORDS ?zARGUMENT_COUNTS ?zis_digit ?zis_letter_or_digit ?zdl ?zlBl ?zlWo ?zlSi ?zlCo ?zsSi ?zsCo ?zlen ?zord ?zstr ?zlist ?zrange ?zmax ?zzip ?zenumerate
    (case za => k_is)
    (case zl => k_is)
    (case zc => k_is)
    (case zk => k_is)
    (case zF => k_is)
    (case zFx => k_is)
    (case zFsa => k_is)
    (case zFga => k_is)
    (case zFgg => k_is)
    (case zFc => k_is)
    (case zFp => k_is)
    (case zFi => k_is)
    (case zFt => k_is)
    (case zFl => k_is)
    (case zFcd => k_is)
    (case zFk => k_is)
    (case zFe => k_is)
    (case zFty => k_is)
    (case zFh => k_is)
    (case zFcl => k_is)
    (case zFs => k_is)
    (case ztok => k_is)
    (case ztokpg => k_is)
    (case ztokhd => k_is)
    (case ztokpo => k_is)
    (case ztoksa => k_is)
    (case ztokms => k_is)
    (case ztokkC => k_is)
    (case ztokin => k_is)
    (case ztokif => k_is)
    (case ztokl => k_is)
    (case ztokc => k_is)
    (case ztokk => k_is)
    (case zmea => k_is)
    (case zmeapg => k_is)
    (case zmeahd => k_is)
    (case zmeapo => k_is)
    (case zmeasa => k_is)
    (case zmeams => k_is)
    (case zmeakC => k_is)
    (case zmeain => k_is)
    (case zmeaif => k_is)
    (case zmeal => k_is)
    (case zmeac => k_is)
    (case zmeak => k_is)
    (case zitm => k_is)
    (case zitmpg => k_is)
    (case zitmhd => k_is)
    (case zitmpo => k_is)
    (case zitmsa => k_is)
    (case zitmms => k_is)
    (case zitmkC => k_is)
    (case zitmin => k_is)
    (case zitmif => k_is)
    (case zitml => k_is)
    (case zitmc => k_is)
    (case zitmk => k_is)
    (case zlst => k_is)
    (case zlstpg => k_is)
    (case zlsthd => k_is)
    (case zlstpo => k_is)
    (case zlstsa => k_is)
    (case zlstms => k_is)
    (case zlstkC => k_is)
    (case zlstin => k_is)
    (case zlstif => k_is)
    (case zlstl => k_is)
    (case zlstc => k_is)
    (case zlstk => k_is)
    (case zrdr => k_is)
    (case zrdrpg => k_is)
    (case zrdrhd => k_is)
    (case zrdrpo => k_is)
    (case zrdrsa => k_is)
    (case zrdrms => k_is)
    (case zrdrkC => k_is)
    (case zrdrin => k_is)
    (case zrdrif => k_is)
    (case zrdrl => k_is)
    (case zrdrc => k_is)
    (case zrdrk => k_is)
    (case zhol => k_is)
    (case zholpg => k_is)
    (case zholhd => k_is)
    (case zholpo => k_is)
    (case zholsa => k_is)
    (case zholms => k_is)
    (case zholkC => k_is)
    (case zholin => k_is)
    (case zholif => k_is)
    (case zholl => k_is)
    (case zholc => k_is)
    (case zholk => k_is)
    (case znTk => k_is)
    (case znTp => k_is)
    (case znTs => k_is)
    (case znMn => k_is)
    (case znMu => k_is)
    (case znIn => k_is)
    (case znIr => k_is)
    (case znLm => k_is)
    (case znLi => k_is)
    (case znRt => k_is)
    (case znRa => k_is)
    (case znHh => k_is)
    (case zlst_numbersat => k_is)
    (case zlst_numbersif => k_is)
    (case zlst_numbersl => k_is)
    (case zlst_numbersc => k_is)
    (case zlst_numbersk => k_is)
    (case zlst_has_itemat => k_is)
    (case zlst_has_itemif => k_is)
    (case zlst_has_iteml => k_is)
    (case zlst_has_itemc => k_is)
    (case zlst_has_itemk => k_is)
    (case zlst_has_measureat => k_is)
    (case zlst_has_measureif => k_is)
    (case zlst_has_measurel => k_is)
    (case zlst_has_measurec => k_is)
    (case zlst_has_measurek => k_is)
    (case zrdr_takeat => k_is)
    (case zrdr_takeif => k_is)
    (case zrdr_takel => k_is)
    (case zrdr_takec => k_is)
    (case zrdr_takek => k_is)
    (case zhol_loadat => k_is)
    (case zhol_loadif => k_is)
    (case zhol_loadl => k_is)
    (case zhol_loadc => k_is)
    (case zhol_loadk => k_is)
    (case zhol_answerat => k_is)
    (case zhol_answerif => k_is)
    (case zhol_answerl => k_is)
    (case zhol_answerc => k_is)
    (case zhol_answerk => k_is)
    (case zMOST_BYTES => k_is)
    (case zMOST_NAME_BYTES => k_is)
    (case zMOST_NUMBER => k_is)
    (case zLINE_END => k_is)
    (case zREMARK_SIGN => k_is)
    (case zMOST_MEASURES => k_is)
    (case zMOST_ITEMS => k_is)
    (case zMOST_VALUE => k_is)
    (case zLOAD => k_is)
    (case zSHOWN => k_is)
    (case zBEATS => k_is)
    (case zBEST => k_is)
    (case zLAYERS => k_is)
    (case zBEATERS => k_is)
    (case zBEATEN => k_is)
    (case zGAIN => k_is)
    (case zBLANKS => k_is)
    (case zSIGNS => k_is)
    (case zWORDS => k_is)
    (case zARGUMENT_COUNTS => k_is)
    (case zis_digit => k_is)
    (case zis_letter_or_digit => k_is)
    (case zdl => first | rfl | decide | decide +kernel | k_is)
    (case zlBl => k_is)
    (case zlWo => k_is)
    (case zlSi => k_is)
    (case zlCo => k_is)
    (case zsSi => first | rfl | decide | decide +kernel | k_is)
    (case zsCo => first | rfl | decide | decide +kernel | k_is)
    (case zlen => k_is)
    (case zord => k_is)
    (case zstr => k_is)
    (case zlist => k_is)
    (case zrange => k_is)
    (case zmax => k_is)
    (case zzip => k_is)
    (case zenumerate => k_is)
  case S =>
    intro K H xs a hO hwi hask hx
    cases hx with
    | cons h1 h2 =>
      cases h2
      cases h1 with
      | lst hs ha =>
        have e := L2.ints_dw a.1 _ ha
        subst e
        have hask' : PyVaskya.answers_asked a.1 = true := hask
        obtain ⟨ks, e1, e2, e3⟩ := Ub.asked_ok hask'
        refine ⟨_, ks, rfl, by rw [← e1]; exact hs, e3, fun H' p hp => ?_⟩
        refine .lst (L2.SqL.of hp) ?_
        rw [← e2]
        exact L2.dw_ints _
