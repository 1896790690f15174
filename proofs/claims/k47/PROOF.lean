import PyProof.Rows.All
import Wide.All
import OpenK.AllK
import Wide.FinOn
import PyProof.ReprRoads
import KE.KMathG
import HandS.ForMost
import HandS.IsInst
import HandS.FStr
import HandS.Property
import HandS.Gcd
import HandS.NoneIn
import HandS.Style
import HandS.Flow
import HandS.Wide
import HandS.Conv
import HandS.Walk
import HandS.RaiseMore
import KE.KUnpackStar
import KE.KDictSum
import HandS.Sort
import HandS.MakeKwOnly
import HandS.Strs
import HandS.Ends
import HandS.SlotsOwn
import HandS.More
import PyProof.InstNe
import HandS.Small
import PyProof.ReprLen
import KE.KDictZip
import HandS.Zip
import HandS.Star
import HandS.Codes
import HandS.TupSets
import HandS.SortRule
import HandS.NamedTupSort
import PyProof.LongRange
import PyProof.ListRange
import HandS.WideBits
import HandS.Lambda
import HandS.TryMany
import HandS.HotCalls
import HandS.ExcInit
import HandS.ExcIs
import HandS.ExcInitHot
import KE.KExcIs
import HandS.WordsExc
import HandS.EndTab
import HandS.TupMul
import KE.GoesEnum
import HandS.Iter
import HandS.TryOnly
import KE.KDictItemsList
import KE.GoesNew
import KE.GoesMore
import KE.LtSeq
import KE.LtData
import KE.KExcInit
import PyProof.ExcBaseAll.LookupError
import PyProof.ExcBaseAll.ArithmeticError
import HandS.CallLocal
import KE.KTupSum
import HandS.TupLe
import HandS.HeadHook3
import PyProof.ListIndex
import KE.KDictPairs
import KE.KEqDict
import HandS.Deep
import KE.SortData
import KE.DataCmp
import PyProof.NeKinds
import HandS.SortInts
import PyProof.Rows.TupDisplay
import HandS.Dict
import HandS.Head0
import HandS.Head1
import HandS.Head2
import HandS.Head3
import HandS.HeadHook1
import HandS.HeadHook2
import HandS.HeadHook4
import PySem.Challenge.RW_tickshares_k47_plans_refused
set_option Elab.async false
set_option linter.all false
set_option maxHeartbeats 4000000
set_option maxRecDepth 100000
namespace Ts
open PySem PySem.Spec PyProof.Rows L2
def top (i : Nat) : Stmt := PySem.Challenge.pw_tickshares_k47_plans_refused.main.body.getD i (.Pass ⟨0, 0, 0, 0⟩)
end Ts
namespace Ts
open PySem PySem.Spec PyProof.Rows L2
/-! ## heaps -/
theorem same_new {H : Hp} {p : Addr} {o : HO} (h : H p = none) : Same H (upd H p o) := fun b x e => by
  rw [upd_ne (ne_of_none e h)]; exact e
/-- all but what stands at b is as it was -/
def But (b : Addr) (H H' : Hp) : Prop := ∀ a o, a ≠ b → H a = some o → H' a = some o
def hid (b : Addr) (H : Hp) : Hp := fun a => if a = b then none else H a
theorem hid_ne {b a : Addr} {H : Hp} (h : a ≠ b) : hid b H a = H a := if_neg h
theorem hid_some {b a : Addr} {H : Hp} {o : HO} (h : hid b H a = some o) : a ≠ b ∧ H a = some o := by
  unfold hid at h
  split at h
  · cases h
  · exact ⟨by assumption, h⟩
theorem hid_sub {b : Addr} {H : Hp} : Same (hid b H) H := fun a o h => (hid_some h).2
theorem But.refl {b : Addr} {H : Hp} : But b H H := fun _ _ _ h => h
theorem But.trans {b : Addr} {H H1 H2 : Hp} (x : But b H H1) (y : But b H1 H2) : But b H H2 := fun a o n h => y a o n (x a o n h)
theorem But.hid {b : Addr} {H H' : Hp} (x : But b H H') : Same (hid b H) (hid b H') := fun a o h => by
  obtain ⟨n, e⟩ := hid_some h
  rw [hid_ne n]; exact x a o n e
theorem But.of {b : Addr} {H H' : Hp} (x : Same (Ts.hid b H) (Ts.hid b H')) : But b H H' := fun a o n h => (hid_some (x a o (by rw [hid_ne n]; exact h))).2
theorem But.of_same {b : Addr} {H H' : Hp} (x : Same H H') : But b H H' := fun a o _ h => x a o h
theorem But.set {b : Addr} {H : Hp} {o : HO} : But b H (upd H b o) := fun a u n h => by rw [upd_ne n]; exact h
/-- a fresh address of a heap that has b -/
theorem But.free {b p : Addr} {H H' : Hp} (x : But b H H') (hb : b ≠ p) (h : H' p = none) : H p = none := by
  cases e : H p with
  | none => rfl
  | some o => rw [x p o (Ne.symm hb) e] at h; cases h
end Ts
namespace L2
open PySem PySem.Spec PyProof.Rows
/-! ## data that is read -/
mutual
theorem Dp.mono {K : PySem.W.Frag} {H H' : Hp} (s : Same H H') : ∀ {v : V} {d : PyData}, Dp K H v d → Dp K H' v d
  | _, _, .non => .non
  | _, _, .bl b => .bl b
  | _, _, .int i => .int i
  | _, _, .str x => .str x
  | _, _, .lst h a => .lst (s.seq h) (DpAll.mono s a)
  | _, _, .tup h a => .tup (by
      rcases h with (h | ⟨o, h⟩) | h
      · exact .inl (.inl (s _ _ h))
      · exact .inl (.inr ⟨o, s _ _ h⟩)
      · exact .inr h) (DpAll.mono s a)
theorem DpAll.mono {K : PySem.W.Frag} {H H' : Hp} (s : Same H H') : ∀ {vs : List V} {ds : List PyData}, DpAll K H vs ds → DpAll K H' vs ds
  | _, _, .nil => .nil
  | _, _, .cons h a => .cons (Dp.mono s h) (DpAll.mono s a)
end
theorem sameT {K : PySem.W.Frag} {H H' : Hp} (s : Same H H') {a : Addr} {xs : List V} (h : SqT K H a xs) : SqT K H' a xs := by
  rcases h with (h | ⟨o, h⟩) | h
  · exact .inl (.inl (s _ _ h))
  · exact .inl (.inr ⟨o, s _ _ h⟩)
  · exact .inr h
theorem DpAll.length {K : PySem.W.Frag} {H : Hp} : ∀ {vs : List V} {ds : List PyData}, DpAll K H vs ds → vs.length = ds.length
  | _, _, .nil => rfl
  | _, _, .cons _ a => congrArg (· + 1) (DpAll.length a)
theorem DpAll.get {K : PySem.W.Frag} {H : Hp} : ∀ {vs : List V} {ds : List PyData}, DpAll K H vs ds → ∀ {i : Nat} {v : V}, vs[i]? = some v → ∃ d, ds[i]? = some d ∧ Dp K H v d
  | _, _, .cons h a, 0, v, e => by
    have e' : _ = v := Option.some.inj e
    subst e'; exact ⟨_, rfl, h⟩
  | _, _, .cons h a, i + 1, v, e => DpAll.get (i := i) a e
theorem DpAll.append {K : PySem.W.Frag} {H : Hp} : ∀ {vs ws : List V} {ds es : List PyData}, DpAll K H vs ds → DpAll K H ws es → DpAll K H (vs ++ ws) (ds ++ es)
  | _, _, _, _, .nil, b => b
  | _, _, _, _, .cons h a, b => .cons h (DpAll.append a b)
theorem Dp.list {K : PySem.W.Frag} {H : Hp} {v : V} {ds : List PyData} (h : Dp K H v (.list ds)) : ∃ a xs, v = .ref a ∧ SqL K H a xs ∧ DpAll K H xs ds := by
  cases h with
  | lst h a => exact ⟨_, _, rfl, h, a⟩
theorem Dp.tuple {K : PySem.W.Frag} {H : Hp} {v : V} {ds : List PyData} (h : Dp K H v (.tuple ds)) : ∃ a xs, v = .ref a ∧ SqT K H a xs ∧ DpAll K H xs ds := by
  cases h with
  | tup h a => exact ⟨_, _, rfl, h, a⟩
theorem Dp.int_eq {K : PySem.W.Frag} {H : Hp} {v : V} {i : Int} (h : Dp K H v (.int i)) : v = .int i := by cases h; rfl
theorem Dp.str_eq {K : PySem.W.Frag} {H : Hp} {v : V} {x : Str} (h : Dp K H v (.str x)) : v = .str x := by cases h; rfl
theorem DpAll.two {K : PySem.W.Frag} {H : Hp} {xs : List V} {d e : PyData} (h : DpAll K H xs [d, e]) : ∃ v w, xs = [v, w] ∧ Dp K H v d ∧ Dp K H w e := by
  cases h with
  | cons h a => cases a with
    | cons g b => cases b; exact ⟨_, _, rfl, h, g⟩
theorem DpAll.ints {K : PySem.W.Frag} {H : Hp} : ∀ (l : List Int), DpAll K H (l.map V.int) (l.map PyData.int)
  | [] => .nil
  | i :: l => .cons (.int i) (DpAll.ints l)
theorem DpAll.strs {K : PySem.W.Frag} {H : Hp} : ∀ (l : List Str), DpAll K H (l.map V.str) (l.map PyData.str)
  | [] => .nil
  | i :: l => .cons (.str i) (DpAll.strs l)
theorem DpAll.ints_eq {K : PySem.W.Frag} {H : Hp} : ∀ {vs : List V} {l : List Int}, DpAll K H vs (l.map PyData.int) → vs = l.map V.int
  | [], [], _ => rfl
  | _ :: _, [], h => nomatch h
  | _, i :: l, .cons h a => by rw [Dp.int_eq h, DpAll.ints_eq a]; rfl
/-- an address that holds no list and no tuple is none of the data's -/
def NoSeq (o : HO) : Prop := (∀ xs, o ≠ .lst xs) ∧ (∀ xs, o ≠ .tup xs) ∧ ∀ ob u, o ≠ .frz ob u
theorem NoSeq.ins {C dx : Addr} {fs : List (Str × V)} : NoSeq (.ins C dx fs) := ⟨fun _ z => (nomatch z), fun _ z => (nomatch z), fun _ _ z => (nomatch z)⟩
theorem SqL.hide {K : PySem.W.Frag} {H : Hp} {a b : Addr} {o : HO} {xs : List V} (ha : H a = some o) (n : NoSeq o) (h : SqL K H b xs) : SqL K (Ts.hid a H) b xs := by
  have ne : ∀ u, H b = some u → u ≠ o → b ≠ a := fun u e d z => by rw [z, ha] at e; exact d (Option.some.inj e).symm
  rcases h with (h | ⟨ob, h⟩) | h
  · exact .inl (.inl ((Ts.hid_ne (ne _ h fun z => n.1 _ z.symm)).trans h))
  · exact .inl (.inr ⟨ob, (Ts.hid_ne (ne _ h fun z => n.2.2 _ _ z.symm)).trans h⟩)
  · exact .inr h
theorem SqT.hide {K : PySem.W.Frag} {H : Hp} {a b : Addr} {o : HO} {xs : List V} (ha : H a = some o) (n : NoSeq o) (h : SqT K H b xs) : SqT K (Ts.hid a H) b xs := by
  have ne : ∀ u, H b = some u → u ≠ o → b ≠ a := fun u e d z => by rw [z, ha] at e; exact d (Option.some.inj e).symm
  rcases h with (h | ⟨ob, h⟩) | h
  · exact .inl (.inl ((Ts.hid_ne (ne _ h fun z => n.2.1 _ z.symm)).trans h))
  · exact .inl (.inr ⟨ob, (Ts.hid_ne (ne _ h fun z => n.2.2 _ _ z.symm)).trans h⟩)
  · exact .inr h
mutual
theorem Dp.hide {K : PySem.W.Frag} {H : Hp} {a : Addr} {o : HO} (ha : H a = some o) (n : NoSeq o) : ∀ {v : V} {d : PyData}, Dp K H v d → Dp K (Ts.hid a H) v d
  | _, _, .non => .non
  | _, _, .bl b => .bl b
  | _, _, .int i => .int i
  | _, _, .str x => .str x
  | _, _, .lst h x => .lst (h.hide ha n) (DpAll.hide ha n x)
  | _, _, .tup h x => .tup (h.hide ha n) (DpAll.hide ha n x)
theorem DpAll.hide {K : PySem.W.Frag} {H : Hp} {a : Addr} {o : HO} (ha : H a = some o) (n : NoSeq o) : ∀ {vs : List V} {ds : List PyData}, DpAll K H vs ds → DpAll K (Ts.hid a H) vs ds
  | _, _, .nil => .nil
  | _, _, .cons h x => .cons (Dp.hide ha n h) (DpAll.hide ha n x)
end
end L2
namespace Ts
open PySem PySem.Spec PyProof.Rows L2
/-- a comprehension's clause without tests -/
theorem yesIf {σ : L2.St} {H : Hp} {A B : Hp → Prop} (h : A H) : tYes σ H (fun b H3 => if b = true then A H3 else B H3) := by
  show (if true = true then A H else B H)
  exact iteT h
/-! ## a def by its promise -/
section
variable (P : Program) (w : World) (K : PySem.W.Frag) (mg : Str → Option Value) (base : Heap)
structure Has (k : Nat) (x : Str) (ps : List Str) (sp : Sp) : Prop where
  ex : ∃ f fd, FnOk P w K mg base CX0 k f fd ps sp ∧ mg x = some (.ref f) ∧ PySem.W.keepIn K (.ref f) = true ∧ Binds K fd ps []
/-- a def that stands at the top under its name -/
structure DefAt (x : Str) (st : Stmt) : Prop where
  ex : ∃ f fd, Fun K x x st f fd ∧ mg x = some (.ref f)
/-- as FnOk, where no repr runs around the call -/
structure FnG (k : Nat) (f : Addr) (fd : FuncData) (ps : List Str) (sp : Sp) : Prop where
  len : ∀ vs H Q E, sp vs H Q E → vs.length = ps.length
  go : ∀ (A : Around) (out : List Env) (s : Shared) (H : Hp) (us : List Value) (vs : List V) (Q : VK), A.guards = some [] → Room k A → Env0 P w K mg base A out s H →
    BindsTo s fd ⟨us, []⟩ (ps.zip us) → Vals vs us → sp vs H Q E0 → codeAny (model P w) A (.call (.ref f) ⟨us, []⟩) (CR CX0 out P w H s Q E0) s
structure HasG (k : Nat) (x : Str) (ps : List Str) (sp : Sp) : Prop where
  ex : ∃ f fd, FnG P w K mg base k f fd ps sp ∧ mg x = some (.ref f) ∧ PySem.W.keepIn K (.ref f) = true ∧ Binds K fd ps []
end
section
variable {P : Program} {w : World} {K : PySem.W.Frag} {mg : Str → Option Value} {base : Heap}
theorem DefAt.has {x : Str} {st : Stmt} {k : Nat} {ps : List Str} {sp : Sp} (D : DefAt K mg x st)
    (hb : ∀ (kV doc pm : Value) (an : Option Addr) (cdv ct : Value) (us : List Value), us.length = ps.length → bindArgs (PySem.W.fnOf x x (defArgs st) (defBody st) (defScope st) .none kV doc pm an cdv ct) ⟨us, []⟩ = pure (ps.zip us))
    (ok : ∀ f fd, Fun K x x st f fd → FnOk P w K mg base CX0 k f fd ps sp) : Has P w K mg base k x ps sp := by
  obtain ⟨f, fd, F, hm⟩ := D.ex
  exact ⟨f, fd, ok f fd F, hm, F.kp, F.binds hb⟩
theorem DefAt.hasG {x : Str} {st : Stmt} {k : Nat} {ps : List Str} {sp : Sp} (D : DefAt K mg x st)
    (hb : ∀ (kV doc pm : Value) (an : Option Addr) (cdv ct : Value) (us : List Value), us.length = ps.length → bindArgs (PySem.W.fnOf x x (defArgs st) (defBody st) (defScope st) .none kV doc pm an cdv ct) ⟨us, []⟩ = pure (ps.zip us))
    (ok : ∀ f fd, Fun K x x st f fd → FnG P w K mg base k f fd ps sp) : HasG P w K mg base k x ps sp := by
  obtain ⟨f, fd, F, hm⟩ := D.ex
  exact ⟨f, fd, ok f fd F, hm, F.kp, F.binds hb⟩
end
section
variable {X : Cx} {k : Nat} {x : Str} {ps : List Str} {sp : Sp} {p pos : Pos} {e : Expr} {es : List Expr} {t : TA}
/-- a call of a def that keeps a promise -/
theorem pe_h (h : Has X.prog X.w X.K X.mg X.base k x ps sp) (hr : Room k X.A) (ha : PA X (e :: es) t) (hg : Gl X x := by rfl) (hdb : (x == ("__debug__" : Str)) = false := by decide)
    (he : starEach (e :: es) X.env = (false, eval e X.env) :: starEach es X.env := by rfl) (hpl : (backTo pos (starEach es X.env)).any (·.1) = false := by rfl) :
    PE X (.Call (.Name x p) (e :: es) [] pos) (tCall sp [] E0 t) := by
  obtain ⟨f, fd, F, hm, hk, hb⟩ := h.ex
  exact pe_call F hr hg hm hk hb .nil pass0 ha hdb he hpl
/-- .. of one that wants that no repr runs around -/
theorem pe_g (h : HasG X.prog X.w X.K X.mg X.base k x ps sp) (hgd : X.A.guards = some []) (hr : Room k X.A) (ha : PA X (e :: es) t) (hg : Gl X x := by rfl) (hdb : (x == ("__debug__" : Str)) = false := by decide)
    (he : starEach (e :: es) X.env = (false, eval e X.env) :: starEach es X.env := by rfl) (hpl : (backTo pos (starEach es X.env)).any (·.1) = false := by rfl) :
    PE X (.Call (.Name x p) (e :: es) [] pos) (tCall sp [] E0 t) := by
  obtain ⟨f, fd, F, hm, hk, hb⟩ := h.ex
  refine ⟨fun pins s σ H Q I q => ?_⟩
  refine wpAny_Call_Name_kw (ld_glob I hg hm ?_ hdb)
  refine PySem.W.callWith_K (h₀ := X.base) I.ok.mod.kin hk (thn (ha.run pos pins s σ H _ I q) fun us s1 hq => ?_) he hpl
  obtain ⟨vs, H1, I1, r, q1⟩ := hq
  have q2 : sp vs H1 Q E0 := by rw [List.append_nil] at q1; exact q1
  refine ⟨I1.kIn, wpAny_call (codeAny_mono (F.go X.A X.stack s1 H1 us vs Q hgd hr I1.env0 ?_ r q2) fun rr s2 z => ?_)⟩
  · have := hb s1 us I1.kIn (by rw [List.append_nil, ← r.length]; exact F.len _ _ _ _ q2)
    rw [List.append_nil] at this; exact this
  · cases rr with
    | error er => exact z.elim
    | ok fl => cases fl with
      | ret u => exact I1.after z
      | next => exact z.elim
      | brk => exact z.elim
      | cont => exact z.elim
end
/-- a def of the text in such surroundings, by its body -/
theorem fun_g {P : Program} {w : World} {K : PySem.W.Frag} {mg : Str → Option Value} {base : Heap} {x qual : Str} {st : Stmt} {f : Addr} {fd : FuncData} {N ps : List Str} {k : Nat} {sp : Sp} (F : Fun K x qual st f fd) (S : FnScope N ps (defScope st))
    (ln : ∀ vs H Q E, sp vs H Q E → vs.length = ps.length)
    (hb : ∀ (cdv : Value) (A : Around) (out : List Env) (s : Shared) (H : Hp) (vs : List V) (Q : VK), A.guards = some [] → Room k (A.deeper (envOfC qual (defScope st) s.heap.objs.size f cdv)) → sp vs H Q E0 →
      ∃ t, PSs (cxOf CX0 P w K mg base N qual (defScope st) f cdv A out s H E0).nox (defBody st) t ∧ t { nx := fun _ H' => Q .non H', rt := Q } (start N vs) H) : FnG P w K mg base (k + 1) f fd ps sp := by
  obtain ⟨oc, od, kV, doc, pm, an, cdv, ct, osl, rfl, lk, hcd⟩ := F.ex
  refine ⟨ln, fun A out s H us vs Q hg hr e0 hbd r q => ?_⟩
  -- the promise at this very place, for the one surrounding A
  let sp1 : Sp := fun vs' H' Q' _ => vs' = vs ∧ H' = H ∧ (∀ v h, Q v h → Q' v h)
  have kin : K.In s.heap := e0.mod.kin.keeps fun b o e => (e0.bs b o e).1
  have lim : s.heap.NoLimit := e0.mod.nolimit.keeps fun b o e => (e0.bs b o e).1
  have hvl : vs.length = ps.length := ln _ _ _ _ q
  have kinds : ∀ y ∈ ps.zip us, (defScope st).names.lookup y.1 = some .local ∨ ((defScope st).names.lookup y.1 = some .cell ∧ ((cellsFrom (s.heap.objs.size + 1) (defScope st).names []).lookup y.1).isSome = true) := by
    intro y hy
    have hm : y.1 ∈ ps := (List.of_mem_zip (a := y.1) (b := y.2) hy).1
    rcases S.par _ hm with z | z
    · exact Or.inl z
    · exact Or.inr ⟨z, PySem.W.cellsFrom_some _ _ _ (Or.inl z)⟩
  refine codeAny_call_function hr.depth (kin _ _ lk) rfl S.co S.gen rfl (PySem.W.codeRec_of kin hcd) (hbd _ _ _ _ ?_)
  refine wpAny_newFunctionEnv_cells S.kind kinds fun env he s1 ic => ?_
  subst he
  refine ⟨lim.keeps ic.toInCall.keep, codeAny_func ?_⟩
  obtain ⟨t, ht, hq⟩ := hb cdv A out s H vs Q hg (hr.deeper _) q
  have J := inv_start (CX := CX0) (E := E0) S hr.hd e0 hvl r ic
  refine wpAny_mono (ht.nox.run [] s1 (start N vs) H _ J hq) (fun fl s2 z => ?_) fun er s2 z => z
  cases fl with
  | ret u => obtain ⟨v, σ2, H2, J2, rv, q2⟩ := z; exact ⟨v, H2, J2.os, J2.bare, J2.base, J2.hok, rv, q2⟩
  | next => obtain ⟨σ2, H2, J2, q2⟩ := z; exact ⟨V.non, H2, J2.os, J2.bare, J2.base, J2.hok, rfl, q2⟩
  | brk => obtain ⟨_, _, _, z2⟩ := z; exact z2.elim
  | cont => obtain ⟨_, _, _, z2⟩ := z; exact z2.elim
/-! ## built-ins that the layer lacks -/
section
variable {X : Cx}
theorem cr_lcm : CallR X (.builtin "math.lcm") (fun vs H Q => ∃ a b : Nat, vs = [.int a, .int b] ∧ a < 2 ^ 31 ∧ b < 2 ^ 31 ∧ Q (.int ((Nat.lcm a b : Nat) : Int)) H) := by
  intro pins s σ H vs us Q I r h
  obtain ⟨a, b, rfl, ha, hb, q⟩ := h
  obtain ⟨t, u, rfl⟩ := Vals.int2 r
  have hl : Nat.lcm a b ≤ a * b := Nat.div_le_self _ _
  have hp : a * b < 2 ^ 62 := by
    rcases Nat.eq_zero_or_pos b with z | z
    · subst z; simp
    · calc a * b < 2 ^ 31 * b := Nat.mul_lt_mul_of_pos_right ha z
        _ ≤ 2 ^ 31 * 2 ^ 31 := Nat.mul_le_mul_left _ (Nat.le_of_lt hb)
        _ = 2 ^ 62 := by decide
  refine PySem.W.mg_lcm_v (c := ((Nat.lcm a b : Nat) : Int)) (by omega) (by omega) (by simp) ?_ ⟨.int _, H, I.tok _, ⟨_, rfl⟩, q⟩
  have h3 : ((Nat.lcm a b : Nat) : Int).natAbs < 2 ^ 62 := by simp; omega
  have h4 : ((Nat.lcm a b : Nat) : Int).natAbs.log2 < 62 ∨ ((Nat.lcm a b : Nat) : Int).natAbs = 0 := by
    by_cases z : ((Nat.lcm a b : Nat) : Int).natAbs = 0
    · exact Or.inr z
    · exact Or.inl ((Nat.log2_lt z).mpr h3)
  rcases h4 with h4 | h4
  · exact Nat.lt_of_lt_of_le h4 (by decide)
  · rw [h4]; decide
end
/-! ## the rules with the written part named (for what stands in a comprehension) -/
section
variable {X : Cx} {K : PySem.W.Frag}
theorem ixL (h : X.K = K) : IxR X (rIxL K) := by subst h; exact ix_list
theorem lenS (h : X.K = K) : CallR X (.builtin "len") (fun xs H Q => ∃ p ys, xs = [.ref p] ∧ (SqL K H p ys ∨ SqT K H p ys) ∧ Q (.int ys.length) H) := by subst h; exact call_len_seq
theorem pg_tupK {es : List Expr} {k : Nat} {t : TGs} {n : Nat} {pos : Pos} (hK : X.K = K) (hc : X.calm = true) (h : PGs X es t)
    (hn : (assignEach es X.env).length = n := by rfl) (hst : (assignEach es X.env).findIdx? (·.1) = none := by rfl) : PG X (.Tuple es k pos) (gTup K n t) := by subst hK; exact pg_tup hc h hn hst
end
theorem pe_ty {X : Cx} {x : Str} {pos : Pos} (n : String) (hm : X.mg x = none) (hg : Gl X x := by rfl) (hv : bootBuiltins x = some (.type n) := by decide +kernel) (hn : x ≠ "__name__" := by decide) (hd : (x == ("__debug__" : Str)) = false := by decide) :
    PE X (.Name x pos) (tC (.ty n)) := pe_bltn hg hm hv rfl hn hd
end Ts
namespace Ts
open PySem PySem.Spec PyProof.Rows L2
/-- the built-in names that the texts use -/
structure Blt0 (mg : Str → Option Value) : Prop where
  zlen : mg "len" = none
  zrange : mg "range" = none
  zabs : mg "abs" = none
  zdivmod : mg "divmod" = none
  zint : mg "int" = none
  zstr : mg "str" = none
  zbool : mg "bool" = none
  zrepr : mg "repr" = none
  zisinstance : mg "isinstance" = none
  ztuple : mg "tuple" = none
  zlist : mg "list" = none
  zdict : mg "dict" = none
  zzip : mg "zip" = none
  zsum : mg "sum" = none
  zall : mg "all" = none
  zmax : mg "max" = none
  zmin : mg "min" = none
  zsorted : mg "sorted" = none
  zset : mg "set" = none
  zenumerate : mg "enumerate" = none
structure Blt (mg : Str → Option Value) : Prop extends Blt0 mg where
  g_gcd : mg "gcd" = some (.builtin "math.gcd")
  g_lcm : mg "lcm" = some (.builtin "math.lcm")
instance {mg : Str → Option Value} : Coe (Blt mg) (Blt0 mg) := ⟨Blt.toBlt0⟩
/-! ## the law's own draws -/
/-- at b: where draws come from -/
def Bas (H : Hp) (b : Addr) : Prop := ∃ x y z : Int, H b = some (.lst [.int x, .int y, .int z])
def spLadle : Sp := fun vs H Q _ => ∃ (b : Addr) (m : Int), vs = [.ref b, .int m] ∧ Bas H b ∧ 0 < m ∧ m < 1073741824 ∧
  ∀ (r : Int) (H' : Hp), 0 ≤ r → r < m → But b H H' → Bas H' b → Q (.int r) H'
/-- a basin made of a script of ints -/
def spBasin (K : PySem.W.Frag) : Sp := fun vs H Q _ => ∃ (a : Addr) (ns : List Int) (i : Nat), vs = [.ref a, .int i] ∧ SqL K H a (ns.map V.int) ∧ ns.length ≤ 63 ∧ i < 63 ∧
  ∀ (b : Addr) (H' : Hp), H b = none → Same H H' → Bas H' b → Q (.ref b) H'
/-- a drawn share -/
def GoodPart (m e p : Nat) : Prop := 1 ≤ e ∧ e ≤ p ∧ p ≤ m ∧ Nat.gcd e p = 1
/-! ## names -/
def IsTag (t : Str) : Prop := 1 ≤ t.length ∧ t.length ≤ 8 ∧ ∀ c ∈ t.cps.toList, 97 ≤ c ∧ c ≤ 122
/-! ## plain lists -/
theorem atI_in {xs : List V} {r : Int} (h0 : 0 ≤ r) (h1 : r < xs.length) : ∃ v, atI xs r = some v ∧ v ∈ xs := by
  obtain ⟨k, rfl⟩ := Int.eq_ofNat_of_zero_le h0
  have hk : k < xs.length := by omega
  exact ⟨xs[k], atI_nat (List.getElem?_eq_getElem hk), List.getElem_mem hk⟩
theorem map_take_succ {α β : Type} (f : α → β) {l : List α} {i : Nat} {x : α} (h : l[i]? = some x) : (l.take (i + 1)).map f = (l.take i).map f ++ [f x] := by
  rw [List.take_add_one, h, List.map_append]; rfl
theorem filter_take_succ {α : Type} (f : α → Bool) {l : List α} {i : Nat} {x : α} (h : l[i]? = some x) : (l.take (i + 1)).filter f = (l.take i).filter f ++ if f x then [x] else [] := by
  rw [List.take_add_one, h, List.filter_append]
  congr 1
  show List.filter f [x] = _
  by_cases c : f x = true
  · rw [if_pos c, List.filter_cons_of_pos c]; rfl
  · rw [if_neg c, List.filter_cons_of_neg c]; rfl
/-- what grows at a new place: what stood ahead of it stands -/
theorem Same.app {H0 H1 : Hp} {D : Addr} {o : HO} (h0 : H0 D = none) (s : Same H0 H1) : Same H0 (upd H1 D o) := fun a u e => by
  rw [upd_ne (ne_of_none e h0)]; exact s a u e
theorem abc_has {c : Nat} (h : 97 ≤ c ∧ c ≤ 122) : c ∈ (Str.ofString "abcdefghijklmnopqrstuvwxyz").cps.toList := by
  have e : (Str.ofString "abcdefghijklmnopqrstuvwxyz").cps.toList = (List.range 26).map (97 + ·) := by decide +kernel
  rw [e]
  exact List.mem_map.mpr ⟨c - 97, List.mem_range.mpr (by omega), by omega⟩
end Ts
namespace Ts
open PySem PySem.Spec PyProof.Rows L2
/-! ## works -/
abbrev Job := Str × Nat × Nat
def partD (e p : Nat) : PyData := .tuple [.int (e : Int), .int (p : Int)]
def jobD (j : Job) : PyData := .tuple [.str j.1, partD j.2.1 j.2.2]
def jobsD (js : List Job) : PyData := .list (js.map jobD)
/-- works with names of their own and shares up to d -/
structure Good (d : Nat) (js : List Job) : Prop where
  nd : (js.map (·.1)).Nodup
  tag : ∀ j ∈ js, IsTag j.1
  part : ∀ j ∈ js, GoodPart d j.2.1 j.2.2
/-! ## the text of a lot -/
def numS (n : Nat) : Str := Str.ofString (toString ((n : Nat) : Int))
def nlS : Str := Str.ofString "\n"
def rowS (j : Job) : Str := Str.ofString "work " ++ j.1 ++ Str.ofString " " ++ numS j.2.1 ++ Str.ofString "/" ++ numS j.2.2
def handsS (n : Nat) : Str := Str.ofString "hands " ++ numS n
def rowsOf (n : Nat) (js : List Job) : List Str := handsS n :: js.map rowS
def pageS (n : Nat) (js : List Job) : Str := Txt.join nlS (rowsOf n js)
theorem numS_tl (n : Nat) : TL.tl (numS n) = TL.numL n := TL.tl_num n
theorem numS_len {n : Nat} (h : n ≤ 1000) : (numS n).length ≤ 4 := by
  rw [TL.len_tl, numS_tl]
  exact TL.numL_len (by decide) (show n < 10 ^ 4 by omega)
theorem rowS_len {j : Job} (ht : IsTag j.1) (hp : GoodPart 1000 j.2.1 j.2.2) : (rowS j).length ≤ 23 := by
  obtain ⟨h1, h2, h3, h4⟩ := hp
  have a := numS_len (n := j.2.1) (by omega)
  have b := numS_len (n := j.2.2) (by omega)
  have c := ht.2.1
  have e1 : (Str.ofString "work ").length = 5 := by decide
  have e2 : (Str.ofString " ").length = 1 := by decide
  have e3 : (Str.ofString "/").length = 1 := by decide
  unfold rowS
  rw [Str.length_append, Str.length_append, Str.length_append, Str.length_append, Str.length_append, e1, e2, e3]
  omega
theorem Good.mono {d d' : Nat} {js : List Job} (g : Good d js) (h : d ≤ d') : Good d' js :=
  ⟨g.nd, g.tag, fun j hj => let ⟨a, b, c, e⟩ := g.part j hj; ⟨a, b, Nat.le_trans c h, e⟩⟩
/-- what an element of the data looks like -/
theorem job_at {K : PySem.W.Frag} {H : Hp} {xs : List V} {js : List Job} (h : DpAll K H xs (js.map jobD)) {i : Nat} {x : V} (e : xs[i]? = some x) :
    ∃ (j : Job) (a q : Addr), js[i]? = some j ∧ x = .ref a ∧ SqT K H a [.str j.1, .ref q] ∧ SqT K H q [.int (j.2.1 : Int), .int (j.2.2 : Int)] := by
  obtain ⟨d, hd, hv⟩ := h.get e
  rw [List.getElem?_map] at hd
  cases ej : js[i]? with
  | none => rw [ej] at hd; cases hd
  | some j =>
    rw [ej] at hd
    have : jobD j = d := Option.some.inj hd
    subst this
    obtain ⟨a, ys, rfl, ha, hy⟩ := hv.tuple
    obtain ⟨v, u, rfl, h1, h2⟩ := hy.two
    obtain ⟨q, zs, rfl, hq, hz⟩ := h2.tuple
    obtain ⟨s, t, rfl, h3, h4⟩ := hz.two
    rw [h1.str_eq] at ha
    rw [h3.int_eq, h4.int_eq] at hq
    exact ⟨j, a, q, rfl, rfl, ha, hq⟩
theorem _root_.L2.DpAll.snoc {K : PySem.W.Frag} {H : Hp} {vs : List V} {ds : List PyData} {v : V} {d : PyData} (h : DpAll K H vs ds) (g : Dp K H v d) : DpAll K H (vs ++ [v]) (ds ++ [d]) := h.append (.cons g .nil)
end Ts
namespace Ts
open PySem PySem.Spec PyProof.Rows L2
/-! ## tuple(what a dict gives) -/
section
variable {prog : Program} {w : World} {A : Around} {E : Value → Shared → Prop} {s : Shared} {T : String} {r d : Addr} {n : Nat} {C : Nat → Value → Prop} {OK : Heap → Prop}
theorem tuple_code {R : Value → Shared → Prop} (S : PySem.W.KdlSrc prog w T r d n C OK) (hh : A.handled = none) (ok : OK s.heap) (hn : n ≤ sizeLine)
    (h : ∀ (h' : Heap) (tk : Nat) (acc : Array Value), (∀ b o, s.heap.get? b = some o → h'.get? b = some o) → ItemsOf C acc n → R (.ref h'.objs.size) { s with heap := h'.push { cls := .type "tuple", data := .seq acc }, toks := tk }) :
    codeAny (model prog w) A (.call (.builtin "tuple.__new__") ⟨[.type "tuple", .ref r], []⟩) (wants R E) s := by
  refine codeAny_of_tree (show wpAny _ A.in1 (checkBuiltinCall "tuple.__new__" ⟨[.type "tuple", .ref r], []⟩ >>= fun _ => again (.builtin "tuple.__new__" ⟨[.type "tuple", .ref r], []⟩)) _ _ s from ?_)
  refine wpAny_bind (wpAny_of_eq (F.newCall_tuple_1 _) (wpAny_pure (And.intro (plainId_quiet F.plain_tuple_new _) (codeAny_builtin F.entry_tuple_new ?_))))
  rw [Around.under_plainId F.plain_tuple_new _]
  have e1 := sub_tuple_self
  have e2 := init_tuple_lookup
  have e3 := madeHere_tuple
  have tI := S.type s ok
  have n1 := S.notTuple
  have n2 := S.notList
  have hh1 : A.in1.handled = none := hh
  wp_walk using wpAny_typeOf tI, PySem.W.kdu_collect (A := A.in1) S hh1 ok hn
  intro h' tk acc hk hacc
  show wpAny _ _ ((Builtin.Tuple.tupleExact acc.toList.toArray).bind fun v => ret v) _ _ _
  unfold Builtin.Tuple.tupleExact
  have ea : acc.toList.toArray = acc := by simp
  refine wpAny_bind (wpAny_newObj_type (wpAny_pure ?_) (by rw [ea]; show acc.size ≤ sizeLine; rw [hacc.1]; exact hn))
  rw [ea]
  exact h h' tk acc hk hacc
theorem tuple_src {Q : Value → Shared → Prop} (S : PySem.W.KdlSrc prog w T r d n C OK) (hh : A.handled = none) (ok : OK s.heap) (hn : n ≤ sizeLine)
    (hQ : ∀ (h' : Heap) (tk : Nat) (acc : Array Value), (∀ b o, s.heap.get? b = some o → h'.get? b = some o) → ItemsOf C acc n → Q (.ref h'.objs.size) { s with heap := h'.push { cls := .type "tuple", data := .seq acc }, toks := tk }) :
    wpAny (model prog w) A (call (.type "tuple") [.ref r]) Q E s := by
  refine callType_codes (Q₁ := fun ob s1 => s1.TypeIs ob "tuple" ∧ Q ob s1) F.called_tuple (F.typeCall_tuple_1 _) F.entry_object_init
    (tuple_code (A := A.in1) S hh ok hn fun h' tk acc k1 k2 => And.intro ⟨_, Heap.get?_push_size _ rfl, rfl⟩ (hQ h' tk acc k1 k2)) fun ob s1 z => ?_
  exact And.intro z.1 (And.intro (F.args_object_init_2 ob _) (object_init_meets F.called_tuple.init.lookup F.called_tuple.made (by decide) prog w A.in1 _ s1 (And.intro z.1 (And.intro rfl z.2))))
end
section
variable {X : Cx} {p pos apos cpos : Pos} {e : Expr} {td : TE}
theorem call_tuple_dK (hc : X.calm = true) : CallR X (.type "tuple") (fun xs H Q => ∃ d kvs, xs = [.ref d] ∧ H d = some (.dK kvs) ∧ ∀ q ob, H q = none → ob.cls = .type "tuple" → ob.dict = none → Q (.ref q) (upd H q (.frz ob (.tup (kvs.map fun kv => kV kv.1))))) := by
  intro pins s σ H xs us Q I r h
  obtain ⟨d, kvs, rfl, hd, q⟩ := h
  obtain ⟨u, rfl, ru⟩ := vals1 r
  obtain rfl : u = Value.ref d := ru
  obtain ⟨z, lo, vs, rk, dd⟩ := (show ObjOk X.prog X.w H s.heap d (.dK kvs) from I.hok d _ hd)
  obtain ⟨ep, dat⟩ := dd.dictAt
  have hl : kvs.length = vs.length := Paired.length rk
  refine tuple_src (PySem.W.kdl_dict (knd := mixKind X.prog X.w) (kvs := vs) (ep := ep) lo) (I.ok.hd hc) dat (by omega) fun h' tk acc k1 k2 => ?_
  have J : Inv X pins σ H { s with heap := h', toks := tk } := I.kept k1
  have al : acc.toList.length = acc.size := by simp
  have rv : Vals (kvs.map fun kv => kV kv.1) acc.toList := by
    refine vals_of_at (by rw [List.length_map, al, k2.1, hl]) fun j x u h1 h2 => ?_
    obtain ⟨k, y, e1, e2⟩ := k2.2 j u (by rw [← Array.getElem?_toList]; exact h2)
    have e3 : (kvs.map (·.1))[j]? = some k := by rw [KV.keys rk, List.getElem?_map, e1]; rfl
    rw [List.getElem?_map] at e3 h1
    cases e4 : kvs[j]? with
    | none => rw [e4] at e3; cases e3
    | some kv =>
      rw [e4] at e3 h1
      have e5 : kv.1 = k := Option.some.inj e3
      have e6 : kV kv.1 = x := Option.some.inj h1
      rw [← e6, e5]
      exact keyIs_rel e2
  refine ⟨.ref h'.objs.size, upd H h'.objs.size (.frz { cls := .type "tuple", data := .seq acc } (.tup (kvs.map fun kv => kV kv.1))), J.laid (t' := tk) (fun b o z => Heap.get?_push_of_some _ z) (Nat.le_refl _) ⟨Heap.get?_push_size _ rfl, by rw [List.length_map]; exact z, acc.toList, rv, ?_⟩, rfl, q _ _ (J.hok.fresh (Nat.le_refl _)) rfl rfl⟩
  rw [Array.toArray_toList]
  exact ⟨_, Heap.get?_push_size _ rfl, rfl, _, rfl⟩
/-- tuple(e.values()) -/
def tTupVals (td : TE) : TE := fun σ H Q => td σ H fun x H1 => ∃ d kvs, x = .ref d ∧ H1 d = some (.dK kvs) ∧ ∀ q, H1 q = none → Q (.ref q) (upd H1 q (.tup (kvs.map (·.2))))
theorem pe_tupVals (hc : X.calm = true) (hg : Gl X "tuple") (hm : X.mg "tuple" = none) (he : PE X e td) (hbase : attributeBase e "values" X.env (eval e X.env) = eval e X.env := by rfl) (hline : (apos.endLine == cpos.line) = true := by rfl)
    (hse : starEach [Expr.Call (.Attribute e "values" apos) [] [] cpos] X.env = [(false, eval (Expr.Call (.Attribute e "values" apos) [] [] cpos) X.env)] := by rfl) :
    PE X (.Call (.Name "tuple" p) [.Call (.Attribute e "values" apos) [] [] cpos] [] pos) (tTupVals td) := by
  refine ⟨fun pins s σ H Q I h => ?_⟩
  refine Call_ (ld_blt I hg hm boot_tuple (PyProof.Rows.callWith_type1 (args_cons ?_ hse) hse))
  refine wpAny_Call_method0_late hbase hline (thn (he.run pins s σ H _ I h) fun v s1 ⟨x, H1, I1, r1, d, kvs, ex, hd, q⟩ => ?_)
  subst ex
  obtain rfl : v = Value.ref d := r1
  obtain ⟨z, hsys, vs, rel, dof⟩ := dk_of I1.hok hd
  obtain ⟨ep, dat⟩ := dof.dictAt
  obtain ⟨ob, es, ho, ex, hdat, hko, hpr, hnd⟩ := id dat
  refine ⟨"dict", "dict.values", F.plainAttrs_dict, F.slot_dict_values, F.type_dict_values, ⟨ob, ho, ex.1⟩, fun b e => ?_, Calls.callWith_builtin rfl (PySem.evalArgs_none ?_)⟩
  · cases e
    exact ⟨ob, ho, ex.2.1⟩
  refine call_meetsIn F.slot_dict_values ⟨ob, ho, ex.1⟩ F.entry_dict_values (F.args_dict_values_1 _) (meets_dict_values (mixKind X.prog X.w) d hsys) (And.intro ⟨vs, dof⟩ ?_)
  -- the view stands at the next address
  have I2 : Inv X pins σ H1 { s1 with heap := s1.heap.push { cls := .type "dict_values", data := .fields #[.ref d] } } := I1.kept (t' := s1.toks) fun b u z => Heap.get?_push_of_some _ z
  have dat2 : (s1.heap.push { cls := .type "dict_values", data := .fields #[.ref d] }).DictAt (mixKind X.prog X.w) d vs ep := dat.keep fun b u z => Heap.get?_push_of_some _ z
  have hl : kvs.length = vs.length := KV.length rel
  refine args_nil (tuple_src (PySem.W.kdl_values (knd := mixKind X.prog X.w) (kvs := vs) (ep := ep) (d := d) (r := s1.heap.objs.size)) (I.ok.hd hc) (And.intro ⟨_, Heap.get?_push_size _ rfl, rfl, rfl⟩ dat2) (by omega) fun h' tk acc k1 k2 => ?_)
  have J : Inv X pins σ H1 { s1 with heap := h', toks := tk } := I2.kept k1
  have al : acc.toList.length = acc.size := by simp
  have rv : Vals (kvs.map (·.2)) acc.toList := by
    refine vals_of_at (by rw [List.length_map, al, k2.1, hl]) fun j y u h1 h2 => ?_
    obtain ⟨k, e1⟩ := k2.2 j u (by rw [← Array.getElem?_toList]; exact h2)
    obtain ⟨y', e2, e3⟩ := KV.at' rel e1
    rw [List.getElem?_map, e2] at h1
    have e6 : y' = y := Option.some.inj h1
    rw [← e6]; exact e3
  refine ⟨.ref h'.objs.size, upd H1 h'.objs.size (.tup (kvs.map (·.2))), J.laid (t' := tk) (fun b o z => Heap.get?_push_of_some _ z) (Nat.le_refl _) ⟨by rw [List.length_map]; exact z, acc.toList, rv, ?_⟩, rfl, q _ (J.hok.fresh (Nat.le_refl _))⟩
  rw [Array.toArray_toList]
  exact ⟨_, Heap.get?_push_size _ rfl, rfl, _, rfl⟩
/-- all(a list of truths) -/
theorem call_allB (hc : X.calm = true) : CallR X (.builtin "all") (fun xs H Q => ∃ (a : Addr) (bs : List Bool), xs = [.ref a] ∧ SqL X.K H a (bs.map V.bl) ∧ Q (.bl (bs.all id)) H) := by
  intro pins s σ H xs us Q I r h
  obtain ⟨a, bs, rfl, hs, q⟩ := h
  obtain ⟨u, rfl, ru⟩ := vals1 r
  obtain rfl : u = Value.ref a := ru
  obtain ⟨its, rv, pl, hz⟩ := I.list hs
  have al : a < s.heap.objs.size := by obtain ⟨o, n, e, _⟩ := pl; exact Heap.lt_size e
  have len : its.length = bs.length := by rw [← rv.length, List.length_map]
  have W := Walks.list (prog := X.prog) (w := X.w) (A := X.A.in1) (I.ok.hd hc) s.heap.objs.size a (Nat.ne_of_lt al) its.toArray
  refine call_all_walk (wpAny_pyIter_list pl.isList ?_)
  refine ⟨s.heap.objs.size, _, _, its.toArray.size, _, _, fun i => bs.getD i true, rfl, W, (show Heap.IsListIter (s.heap.push _) s.heap.objs.size a 0 ∧ Heap.IsList (s.heap.push _) a its.toArray from And.intro ⟨_, Heap.get?_push_size _ rfl, rfl, rfl⟩ (pl.isList.push _)), ?_, fun h' tk hk => ?_⟩
  · intro i v s2 Q2 E2 hv hq
    have hv' : its[i]? = some v := by simpa using hv
    have hi : i < bs.length := by rw [← len]; exact (List.getElem?_eq_some_iff.mp hv').1
    obtain ⟨u2, e1, e2⟩ := rv.get (i := i) (x := V.bl bs[i]) (by rw [List.getElem?_map, List.getElem?_eq_getElem hi]; rfl)
    rw [hv'] at e1
    have e3 : v = u2 := Option.some.inj e1
    subst e3
    obtain rfl : v = Value.bool bs[i] := e2
    have e4 : bs.getD i true = bs[i] := by rw [List.getD_eq_getElem?_getD, List.getElem?_eq_getElem hi]; rfl
    have hq2 : Q2 (bs.getD i true) s2 := hq
    rw [e4] at hq2
    exact wpAny_truthy_bool hq2
  · have J : Inv X pins σ H { s with heap := h', toks := tk } := I.kept fun b o z => hk b o (fun m => absurd (Heap.lt_size z) (by rw [List.mem_singleton.mp m]; exact Nat.lt_irrefl _)) (Heap.get?_push_of_some _ z)
    refine ⟨.bl _, H, J, ?_, q⟩
    show Value.bool _ = Value.bool _
    congr 1
    have ls : its.toArray.size = bs.length := by simp [len]
    rw [ls, Bool.eq_iff_iff]
    simp only [List.all_eq_true, List.mem_range]
    constructor
    · intro z b hb
      obtain ⟨i, hi, e⟩ := List.mem_iff_getElem.mp hb
      have := z i hi
      rw [List.getD_eq_getElem?_getD, List.getElem?_eq_getElem hi] at this
      rw [← e]; exact this
    · intro z i hi
      rw [List.getD_eq_getElem?_getD, List.getElem?_eq_getElem hi]
      exact z _ (List.getElem_mem hi)
/-- first, *rest = a list that is not empty: rest is a new list -/
def gStar (K : PySem.W.Frag) (i j : Nat) : TG := fun v σ H Q => ∃ a x xs, v = .ref a ∧ SqL K H a (x :: xs) ∧ xs.length ≤ 16000 ∧ ∀ p, H p = none → Q ((σ.set i (some x)).set j (some (.ref p))) (upd H p (.lst xs))
theorem pg_star {i j : Nat} {x y : Str} {k : Nat} {px py ps tp : Pos} (hc : X.calm = true) (hN : X.N.Nodup) (hi : X.N[i]? = some x) (hj : X.N[j]? = some y) (hx : X.env.scope.names.lookup x = some .local) (hy : X.env.scope.names.lookup y = some .local)
    (he : assignEach [.Name x px, .Starred (.Name y py) ps] X.env = [(false, assign (.Name x px) X.env), (true, assign (.Name y py) X.env)] := by rfl) :
    PG X (.Tuple [.Name x px, .Starred (.Name y py) ps] k tp) (gStar X.K i j) := by
  refine ⟨fun pins s σ H v u Q I r hw => ?_⟩
  obtain ⟨a, z, zs, rfl, hs, hz, q⟩ := hw
  obtain rfl : u = Value.ref a := r
  obtain ⟨its, rv, pl, _⟩ := I.list hs
  cases rv with
  | @cons _ w1 _ ws r1 rr =>
    have wl : ws.length = zs.length := rr.length.symm
    have L : s.heap.IsList a (w1 :: ws).toArray := pl.isList
    have al : a < s.heap.objs.size := by obtain ⟨o, ho, _⟩ := L; exact Heap.lt_size ho
    rw [PyProof.Rows.assign_Tuple]
    refine wpAny_bind (wpAny_standAt ?_)
    unfold unpack
    rw [he]
    show wpAny _ _ (holding [Value.ref a] (unpackItems (.ref a) 2 (some 1)) >>= fun vs => assignInOrder [assign (.Name x px) X.env, assign (.Name y py) X.env] vs) _ _ s
    refine wpAny_bind (wpAny_holding ?_)
    unfold unpackItems
    refine wpAny_bind (show wpAny _ _ (notIterableAtAll (.ref a)) _ _ _ from ?_)
    unfold notIterableAtAll
    refine wpAny_bind (wpAny_specialOf L.typeIs slot_list_iter.lookup (wpAny_pure ?_))
    simp only [Bool.false_eq_true, if_false]
    refine wpAny_bind (wpAny_holding (wpAny_pyIter_list L (wpAny_bind (wpAny_holding ?_))))
    refine PySem.W.kun_draw (Nat.ne_of_lt al) 1 0 _ _ ⟨_, Heap.get?_push_size _ rfl, rfl, rfl⟩ (L.push _) (by simp) fun h1 t1 s1 => ?_
    have L1 : h1.IsList a (w1 :: ws).toArray := (L.push _).extBut s1.extBut (Nat.ne_of_lt al)
    have t1' : h1.IsListIter s.heap.objs.size a 1 := t1
    have l1 : s.heap.objs.size < h1.objs.size := by obtain ⟨o, ho, _⟩ := t1'; exact Heap.lt_size ho
    have l2 : a < h1.objs.size := by obtain ⟨o, ho, _⟩ := L1; exact Heap.lt_size ho
    have sz : (w1 :: ws).toArray.size = ws.length + 1 := by simp
    show wpAny _ _ (if ([w1] : List Value).length < 1 then _ else _) _ _ _
    rw [if_neg (show ¬ ([w1] : List Value).length < 1 from Nat.lt_irrefl 1)]
    have W := Walks.list (prog := X.prog) (w := X.w) (A := X.A.in1) (I.ok.hd hc) s.heap.objs.size a (Nat.ne_of_lt al) (w1 :: ws).toArray
    refine wpAny_bind (wpAny_holding (PySem.W.kun_collect (T := "list_iterator") (.inr (.inr (.inl rfl))) W (fun j u st => st.1.typeIs) (k := 1) (by rw [sz]; omega) (And.intro t1' L1) l1 l2 (fun h2 tk hk => ?_) (by rw [sz, sizeLine_eq]; omega)))
    have dr : (w1 :: ws).toArray.toList.drop 1 = ws := by simp
    rw [dr]
    show wpAny _ _ (if ws.length < 0 then _ else _) _ _ _
    rw [if_neg (Nat.not_lt_zero _)]
    show wpAny _ _ (newList (ws.take (ws.length - 0)) >>= fun d => pure ([w1] ++ [d] ++ ws.drop (ws.length - 0))) _ _ _
    rw [Nat.sub_zero, List.take_length, List.drop_length]
    have I1 : Inv X pins σ H { s with heap := h2, toks := tk } := I.kept fun b o e => hk b o (Nat.ne_of_lt (Heap.lt_size e)) (s1.extBut b o (Nat.ne_of_lt (Heap.lt_size e)) (Heap.get?_push_of_some _ e))
    refine wpAny_bind (show wpAny _ _ (newList ws) _ _ _ from wpAny_newObj_type (wpAny_pure ?_) (by show ws.toArray.size ≤ sizeLine; rw [List.size_toArray, sizeLine_eq]; omega))
    have hp := I1.hok.fresh (Nat.le_refl h2.objs.size)
    have I2 : Inv X pins σ (upd H h2.objs.size (.lst zs)) { s with heap := h2.push { cls := .type "list", data := .seq ws.toArray }, toks := tk } :=
      I1.laid (t' := tk) (fun b o e => Heap.get?_push_of_some _ e) (Nat.le_refl _) ⟨by rw [sizeLine_eq]; omega, ws, 0, rr, Heap.get?_push_size _ rfl⟩
    show wpAny _ _ (assignInOrder [assign (.Name x px) X.env, assign (.Name y py) X.env] [w1, Value.ref h2.objs.size]) _ _ _
    refine assignInOrder_cons (wpAny_assign_Name (store_ok I2 hN hi (.inl hx) r1 (fun s3 I3 => ?_) (.inr hx)))
    refine assignInOrder_cons (wpAny_assign_Name (store_ok (v := V.ref h2.objs.size) I3 hN hj (.inl hy) rfl (fun s4 I4 => assignInOrder_nil ⟨_, _, I4, q _ hp⟩) (.inr hy)))
end
end Ts
namespace Ts
open PySem PySem.Spec PyProof.Rows L2
/-! ## constants of the text -/
section
variable {X : Cx} {x y : Str} {i : Int} {pos : Pos}
theorem pe_gint (h : ∃ t, X.mg x = some (.int i t)) (hg : Gl X x := by rfl) (hd : (x == ("__debug__" : Str)) = false := by decide) : PE X (.Name x pos) (tC (.int i)) := by
  obtain ⟨t, h⟩ := h
  exact pe_glob hg h ⟨t, rfl⟩ hd
theorem pe_gstr (h : ∃ t, X.mg x = some (.str y t)) (hg : Gl X x := by rfl) (hd : (x == ("__debug__" : Str)) = false := by decide) : PE X (.Name x pos) (tC (.str y)) := by
  obtain ⟨t, h⟩ := h
  exact pe_glob hg h ⟨t, rfl⟩ hd
end
structure Cst (mg : Str → Option Value) : Prop where
  MOST_WORKS : ∃ t, mg "MOST_WORKS" = some (.int 6 t)
  MOST_HANDS : ∃ t, mg "MOST_HANDS" = some (.int 6 t)
  MOST_PERIOD : ∃ t, mg "MOST_PERIOD" = some (.int 16 t)
  LONGEST_NAME : ∃ t, mg "LONGEST_NAME" = some (.int 8 t)
  LETTERS : ∃ t, mg "LETTERS" = some (.str (Str.ofString "abcdefghijklmnopqrstuvwxyz") t)
/-! ## plain values -/
def spIsNumber : Sp := fun vs H Q _ => ∃ (v lo hi : Int), vs = [.int v, .int lo, .int hi] ∧ Q (.bl (decide (lo ≤ v ∧ v ≤ hi))) H
def spIsNumberFrom : Sp := fun vs H Q _ => ∃ (v lo : Int), vs = [.int v, .int lo] ∧ Q (.bl (decide (lo ≤ v))) H
def spIsName : Sp := fun vs H Q _ => ∃ (t : Str), vs = [.str t] ∧ IsTag t ∧ ∀ H', Same H H' → Q (.bl true) H'
def spIsShare : Sp := fun vs H Q _ => ∃ (q : Addr) (e p : Nat), vs = [.ref q] ∧ H q = some (.tup [.int (e : Int), .int (p : Int)]) ∧ GoodPart 16 e p ∧ Q (.bl true) H
/-! ## texts read -/
def spReadNumber : Sp := fun vs H Q _ => ∃ (n m : Nat), vs = [.str (numS n), .int m] ∧ 1 ≤ n ∧ n ≤ m ∧ m ≤ 1000 ∧ Q (.int n) H
def spReadHands : Sp := fun vs H Q _ => ∃ (n : Nat), vs = [.str (handsS n)] ∧ 1 ≤ n ∧ n ≤ 6 ∧ ∀ H', Same H H' → Q (.int n) H'
def spReadWork : Sp := fun vs H Q _ => ∃ (j : Job), vs = [.str (rowS j)] ∧ IsTag j.1 ∧ GoodPart 16 j.2.1 j.2.2 ∧
  ∀ (p q : Addr) H', Same H H' → H' p = some (.tup [.str j.1, .ref q]) → H' q = some (.tup [.int (j.2.1 : Int), .int (j.2.2 : Int)]) → Q (.ref p) H'
/-- a dict with the works' names and shares -/
def KvsOf (K : PySem.W.Frag) (H : Hp) (kvs : List (Key × V)) (js : List Job) : Prop := kvs.map (·.1) = js.map (fun j => (Sum.inr j.1 : Key)) ∧ DpAll K H (kvs.map (·.2)) (js.map fun j => partD j.2.1 j.2.2)
def spReadWorks (K : PySem.W.Frag) : Sp := fun vs H Q _ => ∃ (a : Addr) (js : List Job), vs = [.ref a] ∧ SqL K H a ((js.map rowS).map V.str) ∧ Good 16 js ∧ js.length ≤ 20 ∧
  ∀ (d : Addr) (kvs : List (Key × V)) (H' : Hp), Same H H' → H d = none → H' d = some (.dK kvs) → KvsOf K H' kvs js → Q (.ref d) H'
/-! ## totals -/
def spanN (js : List Job) : Nat := js.foldl (fun s j => Nat.lcm s j.2.2) 1
def partsN (js : List Job) (s : Nat) : Nat := (js.map fun j => j.2.1 * (s / j.2.2)).sum
def totTop (js : List Job) : Nat := partsN js (spanN js) / Nat.gcd (partsN js (spanN js)) (spanN js)
def totBot (js : List Job) : Nat := spanN js / Nat.gcd (partsN js (spanN js)) (spanN js)
def sharesD (js : List Job) : List PyData := js.map fun j => partD j.2.1 j.2.2
def namesD (js : List Job) : List PyData := js.map fun j => .str j.1
def spSpanOf (K : PySem.W.Frag) : Sp := fun vs H Q _ => ∃ (a : Addr) (xs : List V) (js : List Job), vs = [.ref a] ∧ SqT K H a xs ∧ DpAll K H xs (sharesD js) ∧ Good 16 js ∧ ∀ H', Same H H' → Q (.int (spanN js)) H'
def spTotalOf (K : PySem.W.Frag) : Sp := fun vs H Q _ => ∃ (a : Addr) (xs : List V) (js : List Job), vs = [.ref a, .int (spanN js)] ∧ SqT K H a xs ∧ DpAll K H xs (sharesD js) ∧ Good 16 js ∧ js.length ≤ 20 ∧
  ∀ (p : Addr) H', Same H H' → H p = none → H' p = some (.tup [.int (totTop js : Int), .int (totBot js : Int)]) → Q (.ref p) H'
theorem dvd_big {p : Nat} (h0 : 1 ≤ p) (h1 : p ≤ 16) : p ∣ 720720 := by
  have : ∀ q : Fin 17, 1 ≤ q.val → q.val ∣ 720720 := by decide +kernel
  exact this ⟨p, by omega⟩ h0
theorem span_dvd_go : ∀ (js : List Job) (s : Nat), s ∣ 720720 → (∀ j ∈ js, GoodPart 16 j.2.1 j.2.2) → js.foldl (fun s j => Nat.lcm s j.2.2) s ∣ 720720
  | [], s, h, _ => h
  | j :: js, s, h, g => by
    obtain ⟨a, b, c, _⟩ := g j List.mem_cons_self
    exact span_dvd_go js _ (Nat.lcm_dvd h (dvd_big (by omega) c)) fun k hk => g k (List.mem_cons_of_mem _ hk)
theorem span_dvd {js : List Job} (g : Good 16 js) : spanN js ∣ 720720 := span_dvd_go js 1 (Nat.one_dvd _) g.part
theorem span_pos {js : List Job} (g : Good 16 js) : 0 < spanN js := Nat.pos_of_dvd_of_pos (span_dvd g) (by decide)
theorem span_le {js : List Job} (g : Good 16 js) : spanN js ≤ 720720 := Nat.le_of_dvd (by decide) (span_dvd g)
theorem dvd_span_go : ∀ (js : List Job) (s : Nat), s ∣ js.foldl (fun s j => Nat.lcm s j.2.2) s ∧ ∀ j ∈ js, j.2.2 ∣ js.foldl (fun s j => Nat.lcm s j.2.2) s
  | [], s => ⟨Nat.dvd_refl _, by simp⟩
  | k :: js, s => by
    obtain ⟨h1, h2⟩ := dvd_span_go js (Nat.lcm s k.2.2)
    refine ⟨Nat.dvd_trans (Nat.dvd_lcm_left _ _) h1, fun j hj => ?_⟩
    rcases List.mem_cons.mp hj with rfl | hj
    · exact Nat.dvd_trans (Nat.dvd_lcm_right _ _) h1
    · exact h2 j hj
theorem dvd_span {js : List Job} {j : Job} (h : j ∈ js) : j.2.2 ∣ spanN js := (dvd_span_go js 1).2 j h
/-! ## a lot -/
def lotF (t : Str) (n : Int) (pn ps : Addr) (sp : Int) (pt : Addr) : List (Str × V) :=
  putF "_total" (.ref pt) (putF "_span" (.int sp) (putF "_shares" (.ref ps) (putF "_names" (.ref pn) (putF "_hands" (.int n) (putF "_text" (.str t) [])))))
/-- the names, in a tuple that has no dict -/
def NamesAt (H : Hp) (pn : Addr) (js : List Job) : Prop := ∃ ob : Obj, H pn = some (.frz ob (.tup (js.map fun j => V.str j.1))) ∧ ob.cls = .type "tuple" ∧ ob.dict = none
theorem NamesAt.mono {H H' : Hp} {pn : Addr} {js : List Job} (h : NamesAt H pn js) (s : Same H H') : NamesAt H' pn js := by
  obtain ⟨ob, h1, h2⟩ := h
  exact ⟨ob, s _ _ h1, h2⟩
theorem names_strs (js : List Job) : (js.map fun j => V.str j.1) = (js.map (·.1)).map V.str := by rw [List.map_map]; rfl
theorem NamesAt.seq {K : PySem.W.Frag} {H : Hp} {pn : Addr} {js : List Job} (h : NamesAt H pn js) : SqT K H pn ((js.map (·.1)).map V.str) := by
  obtain ⟨ob, h1, h2⟩ := h
  rw [names_strs] at h1
  exact .inl (.inr ⟨ob, h1⟩)
theorem NamesAt.dp {K : PySem.W.Frag} {H : Hp} {pn : Addr} {js : List Job} (h : NamesAt H pn js) : Dp K H (.ref pn) (.tuple (namesD js)) := by
  have ew : namesD js = (js.map (·.1)).map PyData.str := by unfold namesD; rw [List.map_map]; rfl
  rw [ew]
  exact .tup h.seq (DpAll.strs _)
structure LotAt (K : PySem.W.Frag) (C : Addr) (H : Hp) (a : Addr) (n : Nat) (js : List Job) : Prop where
  ex : ∃ dx pn ps pt, H a = some (.ins C dx (lotF (pageS n js) n pn ps (spanN js) pt)) ∧ NamesAt H pn js ∧ Dp K H (.ref ps) (.tuple (sharesD js)) ∧ Dp K H (.ref pt) (partD (totTop js) (totBot js))
theorem LotAt.mono {K : PySem.W.Frag} {C : Addr} {H H' : Hp} {a : Addr} {n : Nat} {js : List Job} (L : LotAt K C H a n js) (s : Same H H') : LotAt K C H' a n js := by
  obtain ⟨dx, pn, ps, pt, h1, h2, h3, h4⟩ := L.ex
  exact ⟨dx, pn, ps, pt, s _ _ h1, h2.mono s, h3.mono s, h4.mono s⟩
def spInit (K : PySem.W.Frag) (C : Addr) : Sp := fun vs H Q _ => ∃ (a dx : Addr) (n : Nat) (js : List Job), vs = [.ref a, .str (pageS n js)] ∧ H a = some (.ins C dx []) ∧ 1 ≤ n ∧ n ≤ 6 ∧ Good 16 js ∧ 0 < js.length ∧ js.length ≤ 6 ∧
  ∀ H', But a H H' → LotAt K C H' a n js → Q .non H'
/-! ## texts read back -/
theorem num_okI {z : Int} (h0 : 0 ≤ z) (h : z ≤ 1000) : z.natAbs.log2 < 1920 := by
  by_cases e : z.natAbs = 0
  · rw [e]; decide
  · exact Nat.lt_trans ((Nat.log2_lt e).mpr (show z.natAbs < 2 ^ 10 by omega)) (by decide)
theorem numS_inj {m n : Nat} (h : numS m = numS n) : m = n := by
  refine TL.numL_inj ?_
  rw [← numS_tl, ← numS_tl, h]
theorem numS_free {n s : Nat} (h : s < 48 ∨ 57 < s) : s ∉ TL.tl (numS n) := by
  rw [numS_tl]; exact TL.numL_free h
theorem sp_tl : TL.tl (Str.ofString " ") = [32] := by decide
theorem nl_tl : TL.tl nlS = [10] := by decide
theorem sl_tl : TL.tl (Str.ofString "/") = [47] := by decide
theorem tag_free {t : Str} (h : IsTag t) {s : Nat} (hs : s < 97) : s ∉ TL.tl t := fun m => by
  have := h.2.2 s m
  omega
theorem join_two (y a b : Str) : Txt.join y [a, b] = a ++ y ++ b := by
  rw [TL.join_eq]; rfl
theorem join_three (y a b c : Str) : Txt.join y [a, b, c] = a ++ y ++ (b ++ y ++ c) := by
  rw [TL.join_eq]; rfl
theorem hands_eq (n : Nat) : handsS n = Txt.join (Str.ofString " ") [Str.ofString "hands", numS n] := by
  rw [join_two]
  refine TL.ext_tl ?_
  unfold handsS
  rw [TL.tl_append, TL.tl_append, TL.tl_append]
  have e : TL.tl (Str.ofString "hands ") = TL.tl (Str.ofString "hands") ++ TL.tl (Str.ofString " ") := by decide
  rw [e]
theorem row_eq (j : Job) : rowS j = Txt.join (Str.ofString " ") [Str.ofString "work", j.1, Txt.join (Str.ofString "/") [numS j.2.1, numS j.2.2]] := by
  rw [join_three, join_two]
  refine TL.ext_tl ?_
  unfold rowS
  simp only [TL.tl_append, List.append_assoc]
  have e : TL.tl (Str.ofString "work ") = TL.tl (Str.ofString "work") ++ TL.tl (Str.ofString " ") := by decide
  rw [e, List.append_assoc]
theorem hands_split (n : Nat) : Txt.split (handsS n) (Str.ofString " ") = [Str.ofString "hands", numS n] := by
  rw [hands_eq]
  refine TL.split_join sp_tl (by decide +kernel) (by simp) fun p hp => ?_
  simp only [List.mem_cons, List.not_mem_nil, or_false] at hp
  rcases hp with rfl | rfl
  · decide
  · exact numS_free (by decide)
theorem part_split (e p : Nat) : Txt.split (Txt.join (Str.ofString "/") [numS e, numS p]) (Str.ofString "/") = [numS e, numS p] := by
  refine TL.split_join sl_tl (by decide +kernel) (by simp) fun q hq => ?_
  simp only [List.mem_cons, List.not_mem_nil, or_false] at hq
  rcases hq with rfl | rfl
  · exact numS_free (by decide)
  · exact numS_free (by decide)
theorem row_split {j : Job} (h : IsTag j.1) : Txt.split (rowS j) (Str.ofString " ") = [Str.ofString "work", j.1, Txt.join (Str.ofString "/") [numS j.2.1, numS j.2.2]] := by
  rw [row_eq]
  refine TL.split_join sp_tl (by decide +kernel) (by simp) fun q hq => ?_
  simp only [List.mem_cons, List.not_mem_nil, or_false] at hq
  rcases hq with rfl | rfl | rfl
  · decide
  · exact tag_free h (by decide)
  · rw [join_two, TL.tl_append, TL.tl_append]
    simp only [List.mem_append, not_or]
    exact ⟨⟨numS_free (by decide), by decide⟩, numS_free (by decide)⟩
theorem page_split {n : Nat} {js : List Job} (h : ∀ j ∈ js, IsTag j.1) : Txt.split (pageS n js) nlS = rowsOf n js := by
  unfold pageS
  refine TL.split_join nl_tl (by decide +kernel) (by unfold rowsOf; simp) fun q hq => ?_
  rcases List.mem_cons.mp hq with rfl | hq
  · unfold handsS
    rw [TL.tl_append]
    simp only [List.mem_append, not_or]
    exact ⟨by decide, numS_free (by decide)⟩
  · obtain ⟨j, hj, rfl⟩ := List.mem_map.mp hq
    unfold rowS
    simp only [TL.tl_append, List.mem_append, not_or]
    exact ⟨⟨⟨⟨⟨by decide, tag_free (h j hj) (by decide)⟩, by decide⟩, numS_free (by decide)⟩, by decide⟩, numS_free (by decide)⟩
/-! ## the class -/
theorem lot_shares {t : Str} {n sp : Int} {pn ps pt : Addr} : (lotF t n pn ps sp pt).lookup ("_shares" : Str) = some (.ref ps) := by
  unfold lotF; repeat (first | rw [lookup_putF, if_pos rfl] | rw [lookup_putF, if_neg (by decide +kernel)])
theorem putF_len (f : Str) (v : V) : ∀ fs : List (Str × V), (putF f v fs).length ≤ fs.length + 1
  | [] => Nat.le_refl _
  | (g, u) :: r => by
    unfold putF
    split
    · exact Nat.le_succ _
    · exact Nat.succ_le_succ (putF_len f v r)
/-- what the written part tells of the class at C -/
structure LotC (K : PySem.W.Frag) (mg : Str → Option Value) (C : Addr) : Prop where
  cl : Cls K C
  n1 : NoAttr K C "_text"
  n2 : NoAttr K C "_hands"
  n3 : NoAttr K C "_names"
  n4 : NoAttr K C "_shares"
  n5 : NoAttr K C "_span"
  n6 : NoAttr K C "_total"
  mgC : mg "Lot" = some (.ref C)
theorem joinL_len (S : List Nat) : ∀ ps : List (List Nat), (TL.joinL S ps).length ≤ (ps.map (·.length)).sum + ps.length * S.length
  | [] => Nat.zero_le _
  | [p] => by
    show p.length ≤ (p.length + 0) + 1 * S.length
    omega
  | p :: q :: r => by
    have ih := joinL_len S (q :: r)
    show (p ++ (S ++ TL.joinL S (q :: r))).length ≤ (p.length + ((q :: r).map (·.length)).sum) + ((q :: r).length + 1) * S.length
    rw [List.length_append, List.length_append, Nat.add_mul]
    omega
theorem rows_sum {js : List Job} (h : ∀ j ∈ js, (rowS j).length ≤ 23) : ((js.map rowS).map (·.length)).sum ≤ 23 * js.length := by
  induction js with
  | nil => exact Nat.le_refl _
  | cons j js ih =>
    have h1 := h j List.mem_cons_self
    have h2 := ih fun y hy => h y (List.mem_cons_of_mem _ hy)
    show (rowS j).length + ((js.map rowS).map (·.length)).sum ≤ 23 * (js.length + 1)
    omega
theorem page_len {n : Nat} {js : List Job} (hn : n ≤ 1000) (G : Good 1000 js) (hl : js.length ≤ 20) : (pageS n js).length + 2 ≤ 1000 := by
  unfold pageS
  rw [TL.join_eq, TL.len_tl, TL.tl_join, nl_tl]
  have a := joinL_len [10] ((rowsOf n js).map TL.tl)
  have e : ((rowsOf n js).map TL.tl).map (·.length) = (rowsOf n js).map (·.length) := by
    rw [List.map_map]
    exact List.map_congr_left fun x _ => (TL.len_tl x).symm
  rw [e] at a
  have b := rows_sum fun j hj => rowS_len (G.tag j hj) (G.part j hj)
  have c : (handsS n).length ≤ 10 := by
    have l6 : (Str.ofString "hands ").length = 6 := by decide
    have := numS_len hn
    unfold handsS; rw [Str.length_append, l6]; omega
  have d : ((rowsOf n js).map (·.length)).sum = (handsS n).length + ((js.map rowS).map (·.length)).sum := rfl
  have f : ((rowsOf n js).map TL.tl).length = js.length + 1 := by unfold rowsOf; rw [List.length_map, List.length_cons, List.length_map]
  rw [d, f] at a
  simp only [List.length_cons, List.length_nil] at a
  omega
end Ts
namespace Ts
open PySem PySem.Spec PyProof.Rows L2
/-! ## properties, objects made, names given -/
section
variable (P : Program) (w : World) (K : PySem.W.Frag) (mg : Str → Option Value) (base : Heap)
/-- the class at C gives under the name x what stands in the field fld -/
structure PropH (C : Addr) (x fld : Str) : Prop where
  ex : ∃ p g fd, PropOf K C x p g ∧ FnOk P w K mg base CX0 1 g fd ["self"] (getSp C fld) ∧ Binds K fd ["self"] []
/-- an own class by the promise of its __init__ -/
structure HasM (k : Nat) (C : Addr) (ps : List Str) (sp : Sp) : Prop where
  ex : ∃ f fd, Mk K C f ∧ FnOk P w K mg base CX0 k f fd ps sp ∧ Binds K fd ps []
end
section
variable {X : Cx} {k : Nat} {x fld : Str} {C : Addr} {ps : List Str} {sp : Sp} {p pos : Pos} {e : Expr} {es : List Expr} {kws : List Keyword} {t tk : TA} {ta : TE}
theorem pe_ph (h : PropH X.prog X.w X.K X.mg X.base C x fld) (c : Cls X.K C) (hr : Room 2 X.A) (he : PE X e ta) (hab : attributeBase e x X.env (eval e X.env) = eval e X.env := by rfl) :
    PE X (.Attribute e x pos) (tProp C (getSp C fld) [] E0 ta) := by
  obtain ⟨p, g, fd, hp, F, hb⟩ := h.ex
  exact pe_prop he c hp F hr hb .nil pass0 hab
theorem pe_hm (h : HasM X.prog X.w X.K X.mg X.base k C ps sp) (hm : X.mg x = some (.ref C)) (hr : Room (k + 1) X.A) (ha : PA X (e :: es) t) (hg : Gl X x := by rfl) (hdb : (x == ("__debug__" : Str)) = false := by decide)
    (he : starEach (e :: es) X.env = (false, eval e X.env) :: starEach es X.env := by rfl) (hpl : (backTo pos (starEach es X.env)).any (·.1) = false := by rfl) :
    PE X (.Call (.Name x p) (e :: es) [] pos) (tMake C sp [] E0 t) := by
  obtain ⟨f, fd, M, F, hb⟩ := h.ex
  exact pe_make M F hr hg hm hb .nil pass0 ha hdb he hpl
end
/-! ## lots -/
/-- what isinstance asks of the class -/
structure LotI (K : PySem.W.Frag) (C : Addr) : Prop where
  ha : PySem.W.findIn K (.ref C) "__class__" = some (some (.builtin "object.__class__"))
  hn : PySem.W.specialIn K (.builtin "object.__class__") "__get__" = some (some (.builtin "getset_descriptor.__get__"))
  htk : PySem.W.takesIn K (.builtin "object.__class__") = some true
  hm : PySem.W.mroIn K C (.type "object") = some true
theorem kit_self {K : PySem.W.Frag} {C : Addr} : PySem.W.kitOne K (.ref C) (.ref C) = some true := by
  unfold PySem.W.kitOne
  rw [if_pos (by simp)]
theorem pe_gref {X : Cx} {x : Str} {C : Addr} {pos : Pos} (h : X.mg x = some (.ref C)) (hg : Gl X x := by rfl) (hd : (x == ("__debug__" : Str)) = false := by decide) : PE X (.Name x pos) (tC (.ref C)) :=
  pe_glob (v := V.ref C) hg h rfl hd
theorem bot_le {js : List Job} (g : Good 16 js) : totBot js ≤ 720720 := Nat.le_trans (Nat.div_le_self _ _) (span_le g)
/-- a property's reading at a lot -/
theorem lot_get {C a : Addr} {H : Hp} {fld : Str} {dx : Addr} {fs : List (Str × V)} {v : V} {Q : VK} (h : H a = some (.ins C dx fs)) (l : fs.lookup fld = some v) (q : Q v H) :
    ∃ a' dx fs, V.ref a = .ref a' ∧ H a' = some (.ins C dx fs) ∧ getSp C fld [.ref a'] H Q E0 :=
  ⟨a, dx, fs, rfl, h, a, dx, fs, v, rfl, h, l, q⟩
end Ts
namespace Ts
open PySem PySem.Spec PyProof.Rows L2
/-! ## what the laws reckon -/
theorem Good.take {d i : Nat} {js : List Job} (G : Good d js) : Good d (js.take i) :=
  ⟨by rw [List.map_take]; exact G.nd.sublist (List.take_sublist _ _), fun k hk => G.tag k (List.mem_of_mem_take hk), fun k hk => G.part k (List.mem_of_mem_take hk)⟩
/-- the sum in parts of a great common bottom -/
def bigN (js : List Job) : Nat := (js.map fun j => j.2.1 * (720720 / j.2.2)).sum
theorem big_parts {js : List Job} (G : Good 16 js) : bigN js = partsN js (spanN js) * (720720 / spanN js) := by
  have key : ∀ l : List Job, (∀ j ∈ l, j ∈ js) → (l.map fun j => j.2.1 * (720720 / j.2.2)).sum = (l.map fun j => j.2.1 * (spanN js / j.2.2)).sum * (720720 / spanN js) := by
    intro l
    induction l with
    | nil => intro _; simp
    | cons j l ih =>
      intro h
      have hj := h j List.mem_cons_self
      obtain ⟨a, b, c, _⟩ := G.part j hj
      have d1 := dvd_span hj
      have d2 := span_dvd G
      rw [List.map_cons, List.map_cons, List.sum_cons, List.sum_cons, ih fun x hx => h x (List.mem_cons_of_mem _ hx), Nat.add_mul, Nat.mul_assoc]
      congr 2
      obtain ⟨u, hu⟩ := d1
      obtain ⟨v, hv⟩ := d2
      have hp : 0 < j.2.2 := by omega
      have hs : 0 < spanN js := span_pos G
      have e1 : spanN js / j.2.2 = u := by rw [hu, Nat.mul_div_cancel_left _ hp]
      have e2 : 720720 / spanN js = v := by rw [hv, Nat.mul_div_cancel_left _ hs]
      have e3 : 720720 / j.2.2 = u * v := by
        rw [hv, hu, Nat.mul_assoc, Nat.mul_div_cancel_left _ hp]
      rw [e1, e2, e3]
  exact key js fun _ h => h
theorem big_low {js : List Job} (G : Good 16 js) : bigN js / Nat.gcd (bigN js) 720720 = totTop js ∧ 720720 / Nat.gcd (bigN js) 720720 = totBot js := by
  have d2 := span_dvd G
  have hs := span_pos G
  have hk : 0 < 720720 / spanN js := Nat.div_pos (span_le G) hs
  have eN : 720720 = spanN js * (720720 / spanN js) := (Nat.mul_div_cancel' d2).symm
  have e := big_parts G
  have eg : Nat.gcd (bigN js) 720720 = Nat.gcd (partsN js (spanN js)) (spanN js) * (720720 / spanN js) := by
    rw [e]
    conv => lhs; rhs; rw [eN]
    exact Nat.gcd_mul_right _ _ _
  rw [eg]
  refine ⟨?_, ?_⟩
  · rw [e]; exact Nat.mul_div_mul_right _ _ hk
  · conv => lhs; lhs; rw [eN]
    exact Nat.mul_div_mul_right _ _ hk
theorem big_le {js : List Job} (G : Good 16 js) (hl : js.length ≤ 6) : bigN js ≤ 6 * 720720 := by
  have key : ∀ l : List Job, (∀ j ∈ l, j ∈ js) → (l.map fun j => j.2.1 * (720720 / j.2.2)).sum ≤ l.length * 720720 := by
    intro l
    induction l with
    | nil => intro _; exact Nat.le_refl _
    | cons j l ih =>
      intro h
      obtain ⟨a, b, c, _⟩ := G.part j (h j List.mem_cons_self)
      have h1 := ih fun x hx => h x (List.mem_cons_of_mem _ hx)
      have h2 : j.2.1 * (720720 / j.2.2) ≤ 720720 := Nat.le_trans (Nat.mul_le_mul_right _ b) (Nat.mul_div_le _ _)
      rw [List.map_cons, List.sum_cons, List.length_cons]
      omega
  exact Nat.le_trans (key js fun _ h => h) (Nat.mul_le_mul_right _ hl)
theorem top_le {js : List Job} (G : Good 16 js) (hl : js.length ≤ 6) : totTop js ≤ 6 * 720720 := by
  rw [← (big_low G).1]
  exact Nat.le_trans (Nat.div_le_self _ _) (big_le G hl)
/-! ## going up to the least common one -/
/-! ## how long a text is -/
theorem shown_int {n : Nat} (h : n < 10 ^ 10) : (PyData.int (n : Int)).shown.length ≤ 10 := by
  show (numS n).length ≤ 10
  rw [TL.len_tl, numS_tl]
  exact TL.numL_len (by decide) h
theorem show_int {n : Nat} (h : n < 10 ^ 10) : (PyData.int (n : Int)).showable = true := by
  show decide (((n : Nat) : Int).natAbs.log2 < 1920) = true
  refine decide_eq_true ?_
  have e : ((n : Nat) : Int).natAbs = n := by simp
  rw [e]
  by_cases z : n = 0
  · subst z; decide
  · exact Nat.lt_trans ((Nat.log2_lt z).mpr (show n < 2 ^ 40 from Nat.lt_trans h (by decide))) (by decide)
/-! ## what does not divide -/
theorem hu64 {A : Around} {k : Nat} (hr : Room k A) : A.units + 64 < cLine := by have := hr.un; omega
end Ts
namespace Ts
open PySem PySem.Spec PyProof.Rows L2
/-! ## the law is called, no repr around -/
/-- of the heap nothing is told but the script -/
def tells (yes : Bool) (a : Addr) (vs : List Value) (ns : List Int) : Hp := fun c =>
  if c = a then (if yes = true then some (.frz { cls := .type "list", data := .seq vs.toArray } (.lst (ns.map V.int))) else none) else none
theorem tells_at {yes : Bool} {a : Addr} {vs : List Value} {ns : List Int} {c : Addr} {u : HO} (h : tells yes a vs ns c = some u) :
    c = a ∧ yes = true ∧ u = .frz { cls := .type "list", data := .seq vs.toArray } (.lst (ns.map V.int)) := by
  unfold tells at h
  split at h
  · split at h
    · exact ⟨by assumption, by assumption, (Option.some.inj h).symm⟩
    · cases h
  · cases h
end Ts
namespace Ts
open PySem PySem.Spec PyProof.Rows L2
/-! ## what the top has left -/
theorem prop_mk {P : Program} {w : World} {K : PySem.W.Frag} {mg : Str → Option Value} {base : Heap} {x qual fld : Str} {st : Stmt} {C p g : Addr} {fd : FuncData} {p1 p2 p3 : Pos} (F : Fun K x qual st g fd) (S : FnScope ["self"] ["self"] (defScope st))
    (body : defBody st = [.Return (some (.Attribute (.Name "self" p1) fld p2)) p3]) (c : Cls K C) (n : NoAttr K C fld) (pp : PropOf K C x p g)
    (hb : ∀ (kV doc pm : Value) (an : Option Addr) (cdv ct : Value) (us : List Value), us.length = 1 → bindArgs (PySem.W.fnOf x qual (defArgs st) (defBody st) (defScope st) .none kV doc pm an cdv ct) ⟨us, []⟩ = pure ((["self"] : List Str).zip us)) :
    PropH P w K mg base C x fld := by
  have bb := F.binds (ps := ["self"]) hb
  obtain ⟨oc, od, kV, doc, pm, an, cdv, ct, osl, rfl, lk, hcd⟩ := F.ex
  exact ⟨p, g, _, pp, fn_getter (k := 0) lk hcd S rfl body c n, bb⟩
end Ts
namespace Ts
open PySem PySem.Spec PyProof.Rows L2
/-! ## turns -/
def spQUp : Sp := fun vs H Q _ => ∃ (a b : Int), vs = [.int a, .int b] ∧ 0 < b ∧ b < 2 ^ 30 ∧ Q (.int ((a + b - 1) / b)) H
/-- the two numbers of a share -/
theorem part_at {K : PySem.W.Frag} {H : Hp} {v : V} {e p : Nat} (h : Dp K H v (partD e p)) : ∃ a, v = .ref a ∧ SqT K H a [.int (e : Int), .int (p : Int)] := by
  obtain ⟨a, xs, rfl, hS, hA⟩ := h.tuple
  obtain ⟨v, u, rfl, g1, g2⟩ := hA.two
  cases g1.int_eq
  cases g2.int_eq
  exact ⟨a, rfl, hS⟩
end Ts
namespace Ts
open PySem PySem.Spec PyProof.Rows L2
/-! ## names given in another order -/
/-- from behind -/
def back {α : Type} (l : List α) : List α := l.reverse
theorem vals_back : ∀ {vs : List V} {us : List Value}, Vals vs us → Vals (back vs) (back us)
  | _, _, .nil => .nil
  | _, _, .cons r h => by
    unfold back
    rw [List.reverse_cons, List.reverse_cons]
    exact (vals_back h).append (.cons r .nil)
end Ts
namespace Ts
open PySem PySem.Spec PyProof.Rows L2
/-! ## ticks of a turn -/
/-! ## what the law's own look answers -/
/-! ## lists of ints as data -/
/-! ## texts of lists of ints and truths -/
theorem int_small {i : Int} (h0 : 0 ≤ i) (h1 : i < 10000000000) : (PyData.int i).showable = true ∧ (PyData.int i).shown.length ≤ 10 := by
  obtain ⟨n, rfl⟩ := Int.eq_ofNat_of_zero_le h0
  have hn : n < 10 ^ 10 := by omega
  exact ⟨show_int hn, shown_int hn⟩
/-! ## what a basin's change leaves -/
theorem seqT_hide {K : PySem.W.Frag} {H : Hp} {a b : Addr} {l xs : List V} (hb : H b = some (.lst l)) (h : SqT K H a xs) : SqT K (hid b H) a xs := by
  have ne : ∀ u, H a = some u → u ≠ HO.lst l → a ≠ b := fun u e d z => by rw [z, hb] at e; exact d (Option.some.inj e).symm
  rcases h with (h | ⟨ob, h⟩) | h
  · exact .inl (.inl ((hid_ne (ne _ h fun z => nomatch z)).trans h))
  · exact .inl (.inr ⟨ob, (hid_ne (ne _ h fun z => nomatch z)).trans h⟩)
  · exact .inr h
theorem part_hide {K : PySem.W.Frag} {H : Hp} {b : Addr} {l : List V} {v : V} {e p : Nat} (hb : H b = some (.lst l)) (h : Dp K H v (partD e p)) : Dp K (hid b H) v (partD e p) := by
  obtain ⟨a, rfl, hS⟩ := part_at h
  exact .tup (seqT_hide hb hS) (.cons (.int _) (.cons (.int _) .nil))
theorem shares_hide {K : PySem.W.Frag} {H : Hp} {b : Addr} {l : List V} (hb : H b = some (.lst l)) : ∀ {js : List Job} {vs : List V}, DpAll K H vs (sharesD js) → DpAll K (hid b H) vs (sharesD js)
  | [], _, .nil => .nil
  | j :: js, _, .cons h t => .cons (part_hide hb h) (shares_hide (js := js) hb t)
theorem LotAt.hide {K : PySem.W.Frag} {C : Addr} {H : Hp} {a b : Addr} {l : List V} {n : Nat} {js : List Job} (hb : H b = some (.lst l)) (L : LotAt K C H a n js) : LotAt K C (hid b H) a n js := by
  obtain ⟨dx, pn, ps, pt, h1, ⟨ob, h2, h5⟩, h3, h4⟩ := L.ex
  have ne : ∀ {c : Addr} {u : HO}, H c = some u → u ≠ HO.lst l → c ≠ b := fun {c u} e d z => by rw [z, hb] at e; exact d (Option.some.inj e).symm
  obtain ⟨ps', xs, e, hS, hA⟩ := h3.tuple
  cases e
  refine ⟨dx, pn, ps, pt, ?_, ⟨ob, ?_, h5⟩, .tup (seqT_hide hb hS) (shares_hide hb hA), part_hide hb h4⟩
  · rw [hid_ne (ne h1 fun z => nomatch z)]; exact h1
  · rw [hid_ne (ne h2 fun z => nomatch z)]; exact h2
end Ts
namespace Ts
open PySem PySem.Spec PyProof.Rows L2
/-! ## turns up to a moment -/
def lowI (e p : Nat) (t : Int) : Int := t * e / p
def highI (e p : Nat) (t : Int) : Int := (t * e + p - 1) / p
def spOfT (K : PySem.W.Frag) : Sp := fun vs H Q _ => ∃ (v : V) (e p : Nat) (t : Int), vs = [v, .int t] ∧ Dp K H v (partD e p) ∧ GoodPart 16 e p ∧ ∀ (r : Addr) (H' : Hp), H r = none → Same H H' → H' r = some (.tup [.int (lowI e p t), .int (highI e p t)]) → Q (.ref r) H'
theorem low_shift {e p : Nat} {t r : Int} (hp : 0 < p) : lowI e p (t + p * r) = lowI e p t + e * r := by
  unfold lowI
  have : (t + p * r) * (e : Int) = t * e + (e * r) * p := by rw [Int.add_mul, Int.mul_comm (p : Int) r, Int.mul_right_comm, Int.mul_comm r (e : Int)]
  rw [this, Int.add_mul_ediv_right _ _ (by omega)]
/-! ## counting turn by turn -/
/-! ## texts of pairs of greater numbers -/
theorem int_big {i : Int} (h0 : 0 ≤ i) (h1 : i < 10 ^ 40) : (PyData.int i).showable = true ∧ (PyData.int i).shown.length ≤ 40 := by
  obtain ⟨n, rfl⟩ := Int.eq_ofNat_of_zero_le h0
  have hn : n < 10 ^ 40 := by
    have : ((n : Nat) : Int) < ((10 ^ 40 : Nat) : Int) := by rw [Int.natCast_pow]; exact h1
    exact Int.ofNat_lt.mp this
  refine ⟨?_, ?_⟩
  · show decide (((n : Nat) : Int).natAbs.log2 < 1920) = true
    refine decide_eq_true ?_
    have e : ((n : Nat) : Int).natAbs = n := by simp
    rw [e]
    by_cases z : n = 0
    · subst z; decide
    · exact Nat.lt_trans ((Nat.log2_lt z).mpr (show n < 2 ^ 140 from Nat.lt_trans hn (by decide +kernel))) (by decide)
  · show (numS n).length ≤ 40
    rw [TL.len_tl, numS_tl]
    exact TL.numL_len (by decide) hn
end Ts
namespace Ts
open PySem PySem.Spec PyProof.Rows L2
/-! ## what a lot shows, as data -/
def Plain (x : Str) : Prop := ∀ c ∈ TL.tl x, c < 128
theorem plain_app {x y : Str} (h : Plain x) (g : Plain y) : Plain (x ++ y) := fun c hc => by
  rw [TL.tl_append] at hc
  exact (List.mem_append.mp hc).elim (h c) (g c)
theorem plain_num (n : Nat) : Plain (numS n) := fun c hc => by
  by_cases z : c < 128
  · exact z
  · exact absurd hc (numS_free (by omega))
theorem plain_tag {t : Str} (h : IsTag t) : Plain t := fun c hc => by
  have := h.2.2 c hc
  omega
theorem mem_joinL {S : List Nat} {c : Nat} : ∀ {ps : List (List Nat)}, c ∈ TL.joinL S ps → c ∈ S ∨ ∃ p ∈ ps, c ∈ p
  | [], h => nomatch h
  | [p], h => .inr ⟨p, List.mem_cons_self, h⟩
  | p :: q :: r, h => by
    have h : c ∈ p ++ (S ++ TL.joinL S (q :: r)) := h
    rcases List.mem_append.mp h with h | h
    · exact .inr ⟨p, List.mem_cons_self, h⟩
    · rcases List.mem_append.mp h with h | h
      · exact .inl h
      · rcases mem_joinL h with h | ⟨u, hu, h⟩
        · exact .inl h
        · exact .inr ⟨u, List.mem_cons_of_mem _ hu, h⟩
theorem plain_row {j : Job} (h : IsTag j.1) : Plain (rowS j) := by
  unfold rowS
  exact plain_app (plain_app (plain_app (plain_app (plain_app (fun c hc => by revert c; decide) (plain_tag h)) (fun c hc => by revert c; decide)) (plain_num _)) (fun c hc => by revert c; decide)) (plain_num _)
theorem plain_hands (n : Nat) : Plain (handsS n) := by
  unfold handsS
  exact plain_app (fun c hc => by revert c; decide) (plain_num _)
theorem plain_page {d n : Nat} {js : List Job} (G : Good d js) : Plain (pageS n js) := fun c hc => by
  unfold pageS at hc
  rw [TL.join_eq, TL.tl_join, nl_tl] at hc
  rcases mem_joinL hc with h | ⟨u, hu, h⟩
  · rw [List.mem_singleton.mp h]; decide
  · obtain ⟨x, hx, rfl⟩ := List.mem_map.mp hu
    unfold rowsOf at hx
    rcases List.mem_cons.mp hx with rfl | hx
    · exact plain_hands n c h
    · obtain ⟨j, hj, rfl⟩ := List.mem_map.mp hx
      exact plain_row (G.tag j hj) c h
def reprS (m n : Nat) : Str := Str.ofString "Lot of " ++ numS m ++ Str.ofString " works, " ++ numS n ++ Str.ofString " hands"
theorem plain_repr (m n : Nat) : Plain (reprS m n) := by
  unfold reprS
  exact plain_app (plain_app (plain_app (plain_app (fun c hc => by revert c; decide) (plain_num _)) (fun c hc => by revert c; decide)) (plain_num _)) (fun c hc => by revert c; decide)
def shownD (n : Nat) (js : List Job) : PyData := .list [.str (pageS n js), .int n, .tuple (namesD js), .tuple (sharesD js), partD (totTop js) (totBot js), .int (spanN js : Int), .str (pageS n js), .bool true, .str (reprS js.length n)]
theorem short_str {x : Str} (h : Plain x) : PyData.leavesShort 13 (.str x) = true := by
  show (x.cps.toList.all fun c => decide (c < 16 ^ 8)) = true
  rw [List.all_eq_true]
  intro c hc
  have := h c hc
  exact decide_eq_true (by omega)
theorem short_int {i : Int} (h0 : 0 ≤ i) (h1 : i < 10000000000) : PyData.leavesShort 13 (.int i) = true := decide_eq_true (Nat.le_trans (int_small h0 h1).2 (by decide))
theorem weight_int {i : Int} (h0 : 0 ≤ i) (h1 : i < 10000000000) : PyData.weight (.int i) ≤ 100 := by
  show (if i == 0 then 0 else i.natAbs.log2 + 1) ≤ 100
  split
  · omega
  · by_cases z : i.natAbs = 0
    · rw [z]; decide
    · have := (Nat.log2_lt z).mpr (show i.natAbs < 2 ^ 40 by omega)
      omega
/-- data that a repr can write -/
structure Nice (w e : Nat) (d : PyData) : Prop where
  sh : d.showable = true
  lv : d.leavesShort 13 = true
  wt : d.weight ≤ w
  dp : d.depth ≤ e
  nd : d.hasDict = false
structure NiceAll (w e : Nat) (ds : List PyData) : Prop where
  sh : PyData.showableAll ds = true
  lv : PyData.leavesShortAll 13 ds = true
  wt : PyData.weightAll ds ≤ w
  dp : PyData.depthAll ds ≤ e
  nd : PyData.hasDictAll ds = false
theorem NiceAll.nil {w e : Nat} : NiceAll w e [] := ⟨rfl, rfl, Nat.zero_le _, Nat.zero_le _, rfl⟩
theorem NiceAll.cons {w w' e : Nat} {d : PyData} {ds : List PyData} (h : Nice w e d) (g : NiceAll w' e ds) : NiceAll (w + 1 + w') e (d :: ds) := by
  refine ⟨?_, ?_, ?_, ?_, ?_⟩
  · show (d.showable && PyData.showableAll ds) = true
    rw [h.sh, g.sh]; rfl
  · show (d.leavesShort 13 && PyData.leavesShortAll 13 ds) = true
    rw [h.lv, g.lv]; rfl
  · have h1 := h.wt
    have h2 := g.wt
    show d.weight + 1 + PyData.weightAll ds ≤ w + 1 + w'
    omega
  · have h1 := h.dp
    have h2 := g.dp
    show max d.depth (PyData.depthAll ds) ≤ e
    omega
  · show (d.hasDict || PyData.hasDictAll ds) = false
    rw [h.nd, g.nd]; rfl
theorem NiceAll.tup {w e : Nat} {ds : List PyData} (g : NiceAll w e ds) : Nice w (e + 1) (.tuple ds) := ⟨g.sh, g.lv, g.wt, Nat.succ_le_succ g.dp, g.nd⟩
theorem NiceAll.lst {w e : Nat} {ds : List PyData} (g : NiceAll w e ds) : Nice w (e + 1) (.list ds) := ⟨g.sh, g.lv, g.wt, Nat.succ_le_succ g.dp, g.nd⟩
theorem Nice.mono {w w' e e' : Nat} {d : PyData} (h : Nice w e d) (h1 : w ≤ w') (h2 : e ≤ e') : Nice w' e' d := ⟨h.sh, h.lv, Nat.le_trans h.wt h1, Nat.le_trans h.dp h2, h.nd⟩
theorem nice_str {w e : Nat} {x : Str} (h : Plain x) (hw : x.length ≤ w) : Nice w e (.str x) := ⟨rfl, short_str h, hw, Nat.zero_le _, rfl⟩
theorem nice_int {e : Nat} {i : Int} (h0 : 0 ≤ i) (h1 : i < 10000000000) : Nice 100 e (.int i) := ⟨(int_small h0 h1).1, short_int h0 h1, weight_int h0 h1, Nat.zero_le _, rfl⟩
theorem nice_bool {e : Nat} {b : Bool} : Nice 0 e (.bool b) := ⟨rfl, rfl, Nat.le_refl _, Nat.zero_le _, rfl⟩
theorem nice_part {e p : Nat} (h1 : e < 10000000000) (h2 : p < 10000000000) : Nice 202 1 (partD e p) :=
  (NiceAll.tup (NiceAll.cons (nice_int (e := 0) (by omega) (by omega)) (NiceAll.cons (nice_int (e := 0) (by omega) (by omega)) (NiceAll.nil (w := 0))))).mono (by decide) (by decide)
theorem nice_names : ∀ {js : List Job}, (∀ j ∈ js, IsTag j.1) → NiceAll (9 * js.length) 0 (namesD js)
  | [], _ => NiceAll.nil
  | j :: js, h => by
    have hj := h j List.mem_cons_self
    have g := NiceAll.cons (nice_str (w := 8) (e := 0) (plain_tag hj) hj.2.1) (nice_names (js := js) fun x hx => h x (List.mem_cons_of_mem _ hx))
    exact ⟨g.sh, g.lv, Nat.le_trans g.wt (by rw [List.length_cons]; omega), g.dp, g.nd⟩
theorem nice_shares : ∀ {js : List Job}, (∀ j ∈ js, GoodPart 16 j.2.1 j.2.2) → NiceAll (203 * js.length) 1 (sharesD js)
  | [], _ => NiceAll.nil
  | j :: js, h => by
    obtain ⟨p1, p2, p3, _⟩ := h j List.mem_cons_self
    have g := NiceAll.cons (nice_part (e := j.2.1) (p := j.2.2) (by omega) (by omega)) (nice_shares (js := js) fun x hx => h x (List.mem_cons_of_mem _ hx))
    exact ⟨g.sh, g.lv, Nat.le_trans g.wt (by rw [List.length_cons]; omega), g.dp, g.nd⟩
theorem Nice.fits {w e : Nat} {d : PyData} (h : Nice w e d) (h1 : w ≤ 1000000) (h2 : e < 60) : d.showable = true ∧ d.hasDict = false ∧ d.depth < 60 ∧ d.shown.length ≤ sizeLine :=
  ⟨h.sh, h.nd, Nat.lt_of_le_of_lt h.dp h2, PyData.shown_fits (by decide) (by decide) h.lv (Nat.le_trans h.wt (Nat.le_trans h1 (by decide)))⟩
theorem shown_fits {n : Nat} {js : List Job} (G : Good 16 js) (hl : js.length ≤ 6) (hn : n ≤ 6) : (shownD n js).showable = true ∧ (shownD n js).hasDict = false ∧ (shownD n js).depth < 60 ∧ (shownD n js).shown.length ≤ sizeLine := by
  have lp : (pageS n js).length ≤ 1000 := by
    have := page_len (n := n) (by omega) (G.mono (show 16 ≤ 1000 by decide)) (by omega)
    omega
  have lr : (reprS js.length n).length ≤ 1000 := by
    have l1 : (Str.ofString "Lot of ").length = 7 := by decide
    have l2 : (Str.ofString " works, ").length = 8 := by decide
    have l3 : (Str.ofString " hands").length = 6 := by decide
    have l5 := numS_len (n := js.length) (by omega)
    have l6 := numS_len (n := n) (by omega)
    unfold reprS
    rw [Str.length_append, Str.length_append, Str.length_append, Str.length_append, l1, l2, l3]
    omega
  have t1 := top_le G hl
  have t2 := bot_le G
  have t3 := span_le G
  have ns := (nice_names G.tag).tup.mono (show 9 * js.length ≤ 1000 by omega) (show 0 + 1 ≤ 2 by decide)
  have ss := (nice_shares G.part).tup.mono (show 203 * js.length ≤ 2000 by omega) (show 1 + 1 ≤ 2 by decide)
  have page := nice_str (e := 2) (plain_page (n := n) G) lp
  have pr := (nice_part (e := totTop js) (p := totBot js) (by omega) (by omega)).mono (Nat.le_refl _) (show 1 ≤ 2 by decide)
  have all := NiceAll.lst (NiceAll.cons page (NiceAll.cons (nice_int (i := (n : Int)) (by omega) (by omega)) (NiceAll.cons ns (NiceAll.cons ss (NiceAll.cons pr (NiceAll.cons (nice_int (i := (spanN js : Int)) (by omega) (by omega)) (NiceAll.cons page (NiceAll.cons (nice_bool (b := true)) (NiceAll.cons (nice_str (plain_repr _ _) lr) (NiceAll.nil (w := 0)))))))))))
  exact all.fits (by decide) (by decide)
end Ts
namespace Ts
open PySem PySem.Spec PyProof.Rows L2
/-! ## works bent a little -/
theorem Good.sub {d : Nat} {js ks : List Job} (G : Good d js) (h : ks.Sublist js) : Good d ks :=
  ⟨G.nd.sublist (h.map _), fun j hj => G.tag j (h.subset hj), fun j hj => G.part j (h.subset hj)⟩
/-! ## a page tells its works -/
/-! ## pairs of hands and works, as data -/
/-! ## lists cut and joined -/
/-! ## two cells out of sight; cells that are new -/
def hd (c b : Addr) (H : Hp) : Hp := hid c (hid b H)
theorem hd_ne {a c b : Addr} {H : Hp} (h : a ≠ c) (g : a ≠ b) : hd c b H a = H a := (hid_ne h).trans (hid_ne g)
theorem hd_some {a c b : Addr} {H : Hp} {o : HO} (h : hd c b H a = some o) : a ≠ c ∧ a ≠ b ∧ H a = some o := by
  obtain ⟨n, h⟩ := hid_some h
  obtain ⟨m, h⟩ := hid_some h
  exact ⟨n, m, h⟩
theorem But.hd {c b : Addr} {H H' : Hp} (x : But b H H') : Same (Ts.hd c b H) (Ts.hd c b H') := fun a o h => by
  obtain ⟨n, m, h⟩ := hd_some h
  rw [hd_ne n m]; exact x a o m h
end Ts
namespace Ts
open PySem PySem.Spec PyProof.Rows L2
/-! ## methods by their promises -/
structure HasD (P : Program) (w : World) (K : PySem.W.Frag) (mg : Str → Option Value) (base : Heap) (k : Nat) (C : Addr) (m : Str) (ps : List Str) (sp : Sp) : Prop where
  ex : ∃ f fd, Meth K C m f ∧ FnOk P w K mg base CX0 k f fd ps sp ∧ Binds K fd ps []
theorem hasD_mk {P : Program} {w : World} {K : PySem.W.Frag} {mg : Str → Option Value} {base : Heap} {x qual : Str} {st : Stmt} {C f : Addr} {fd : FuncData} {k : Nat} {ps : List Str} {sp : Sp} (F : Fun K x qual st f fd) (M : Meth K C x f) (ok : FnOk P w K mg base CX0 k f fd ps sp)
    (hb : ∀ (kV doc pm : Value) (an : Option Addr) (cdv ct : Value) (us : List Value), us.length = ps.length → bindArgs (PySem.W.fnOf x qual (defArgs st) (defBody st) (defScope st) .none kV doc pm an cdv ct) ⟨us, []⟩ = pure (ps.zip us)) : HasD P w K mg base k C x ps sp :=
  ⟨f, fd, M, ok, F.binds hb⟩
section
variable {X : Cx} {k : Nat} {C : Addr} {m : Str} {ps ks : List Str} {sp : Sp} {turned : {α : Type} → List α → List α} {o e : Expr} {es : List Expr} {kws : List Keyword} {apos pos : Pos} {ta : TE} {t tk : TA}
theorem pe_hd {pl : Sem Bool} (h : HasD X.prog X.w X.K X.mg X.base k C m ps sp) (c : Cls X.K C) (hr : Room k X.A) (he : PE X o ta) (ha : PA X (e :: es) t)
    (hst : starEach (e :: es) X.env = (false, eval e X.env) :: starEach es X.env := by rfl) (hpl : (backTo pos (starEach es X.env)).any (·.1) = false := by rfl)
    (ht : eval (.Call (.Attribute o m apos) (e :: es) [] pos) X.env = (do
      let ov ← eval o X.env
      standAt apos.atName
      let (g, ahead) ← holding [ov] (getMethod ov m pl)
      callWith pos g ahead (backTo pos (starEach (e :: es) X.env)) (backToKw pos (keywordEach [] X.env))) := by rfl) :
    PE X (.Call (.Attribute o m apos) (e :: es) [] pos) (tMeth C m sp [] E0 ta t) := by
  obtain ⟨f, fd, M, F, b⟩ := h.ex
  exact pe_meth he c M F hr b .nil pass0 ha hst hpl ht
end
/-! ## dict(zip(t, u)) of two tuples -/
end Ts
namespace Ts
open PySem PySem.Spec PyProof.Rows L2
/-! ## a promise that says less -/
theorem Has.imp {P : Program} {w : World} {K : PySem.W.Frag} {mg : Str → Option Value} {base : Heap} {k : Nat} {x : Str} {ps : List Str} {sp sp' : Sp} (A : Has P w K mg base k x ps sp) (h : ∀ vs H Q E, sp' vs H Q E → sp vs H Q E) : Has P w K mg base k x ps sp' := by
  obtain ⟨f, fd, F, hm, hk, hb⟩ := A.ex
  exact ⟨f, fd, F.imp h, hm, hk, hb⟩
/-! ## a work put among others -/
def setJ (js : List Job) (j : Job) : List Job := if j.1 ∈ js.map (·.1) then js.map (fun x => if x.1 = j.1 then j else x) else js ++ [j]
theorem setJ_names (js : List Job) (j : Job) : (setJ js j).map (·.1) = if j.1 ∈ js.map (·.1) then js.map (·.1) else js.map (·.1) ++ [j.1] := by
  unfold setJ
  split
  · rw [List.map_map]
    refine List.map_congr_left fun x _ => ?_
    show (if x.1 = j.1 then j else x).1 = x.1
    split
    · rename_i h; exact h.symm
    · rfl
  · rw [List.map_append]; rfl
theorem setJ_mem {js : List Job} {j x : Job} (h : x ∈ setJ js j) : x = j ∨ x ∈ js := by
  unfold setJ at h
  split at h
  · obtain ⟨y, hy, e⟩ := List.mem_map.mp h
    split at e
    · exact .inl e.symm
    · exact .inr (e ▸ hy)
  · rcases List.mem_append.mp h with h | h
    · exact .inr h
    · exact .inl (List.mem_singleton.mp h)
theorem Good.set {d : Nat} {js : List Job} {j : Job} (G : Good d js) (ht : IsTag j.1) (hp : GoodPart d j.2.1 j.2.2) : Good d (setJ js j) := by
  refine ⟨?_, fun x hx => ?_, fun x hx => ?_⟩
  · rw [setJ_names]
    split
    · exact G.nd
    · rename_i h
      rw [List.nodup_append]
      refine ⟨G.nd, by simp, fun a ha b hb e => h ?_⟩
      rw [← List.mem_singleton.mp hb, ← e]; exact ha
  · rcases setJ_mem hx with h | h
    · rw [h]; exact ht
    · exact G.tag x h
  · rcases setJ_mem hx with h | h
    · rw [h]; exact hp
    · exact G.part x h
/-! ## dicts of works -/
theorem KvsOf.mono {K : PySem.W.Frag} {H H' : Hp} {kvs : List (Key × V)} {js : List Job} (h : KvsOf K H kvs js) (s : Same H H') : KvsOf K H' kvs js := ⟨h.1, h.2.mono s⟩
theorem KvsOf.length {K : PySem.W.Frag} {H : Hp} {kvs : List (Key × V)} {js : List Job} (h : KvsOf K H kvs js) : kvs.length = js.length := by
  have := congrArg List.length h.1
  rw [List.length_map, List.length_map] at this; exact this
/-! ## promises -/
end Ts
namespace Ts
open PySem PySem.Spec PyProof.Rows L2
/-! ## often wanted -/
theorem Bas.on {b : Addr} {H H' : Hp} (h : Bas H b) (s : Same H H') : Bas H' b := by
  obtain ⟨x, y, z, e⟩ := h
  exact ⟨x, y, z, s _ _ e⟩
theorem Bas.off {b p : Addr} {H : Hp} (h : Bas H b) (hp : H p = none) : p ≠ b := by
  obtain ⟨x, y, z, e⟩ := h
  exact (ne_of_none e hp).symm
theorem But.trans' {b : Addr} {H H1 H2 : Hp} (x : But b H H1) (s : Same H1 H2) : But b H H2 := x.trans (But.of_same s)
theorem hid_put {b : Addr} {H : Hp} {o : HO} : Same (hid b H) (hid b (upd H b o)) := fun a u e => by
  obtain ⟨n, e⟩ := hid_some e
  rw [hid_ne n, upd_ne n]; exact e
theorem hid_same {b : Addr} {H H' : Hp} (s : Same H H') : Same (hid b H) (hid b H') := (But.of_same s : But b H H').hid
/-- behind the making of a lot -/
theorem lot_same {x dx : Addr} {o u : HO} {H H' : Hp} (b : But x (upd (upd H dx u) x o) H') (hx : H x = none) (hdx : H dx = none) : Same H H' :=
  fun a v e => b a v (ne_of_none e hx) (by rw [upd_ne (ne_of_none e hx), upd_ne (ne_of_none e hdx)]; exact e)
section
variable {K : PySem.W.Frag} {mg : Str → Option Value} {C : Addr} {H : Hp} {Q : VK} {x y : Addr} {m n : Nat} {js ks : List Job}
theorem LotAt.kind (T : LotC K mg C) (I : LotI K C) (L : LotAt K C H x n js) : TyX K H (.ref x) (.ref C) := by
  obtain ⟨dx, pn, ps, pt, ha, _⟩ := L.ex
  exact .base (.ins ha T.cl I.ha I.hn I.htk I.hm)
end
/-! ## a work put back as it was -/
/-! ## pairs of a list, as a dict -/
end Ts
namespace Ts
open PySem PySem.Spec PyProof.Rows L2
/-! ## rows of numbers sorted, of any lengths, as many as there are -/
section
variable {prog : Program} {w : World} {A : Around} {E : Value → Shared → Prop} {s : Shared}
theorem rows_lex {Q : Bool → Shared → Prop} {b fin : Bool} {us vs : List Value} {ns ms : List Int} (i : Nat) (hu : IntsAre us ns) (hv : IntsAre vs ms) (hf : fin = decide (ns.length < ms.length)) (h : Q (HT.lexLt ns ms) s) :
    PySem.W.KatLex prog w A b fin Q (us.zip vs) i s := by
  induction hu generalizing vs ms i with
  | nil =>
    cases hv with
    | nil => rw [HT.lexLt_nil_nil] at h; rw [hf]; exact PySem.W.kat_nil h
    | cons q t hv => rw [HT.lexLt_nil_cons] at h; rw [hf, decide_eq_true (by simp)]; exact PySem.W.kat_nil h
  | @cons p t us ns hu ih =>
    cases hv with
    | nil => rw [HT.lexLt_cons_nil] at h; rw [hf, decide_eq_false (by simp)]; exact PySem.W.kat_nil h
    | @cons q t2 vs ms hv =>
      have hf2 : fin = decide (ns.length < ms.length) := by rw [hf]; simp
      show PySem.W.KatLex prog w A b fin Q ((Value.int p t, Value.int q t2) :: us.zip vs) i s
      rw [HT.lexLt_cons] at h
      refine PySem.W.kat_cons (wpAny_eqBool_int ?_)
      by_cases e : p = q
      · rw [if_pos e] at h
        rw [e, beq_self_eq_true]
        refine PySem.W.kat_yes ?_
        first | exact ih (i + 1) hv hf2 h | exact ih hf2 (i + 1) hv h | exact ih _ _ (i + 1) hv hf2 h
      · rw [if_neg e] at h
        rw [beq_eq_false_iff_ne.mpr e]
        exact PySem.W.kat_no (TS.oneLt_ints _ h)
def ltL {α : Type} (k : α → List Int) (x y : α) : Bool := HT.lexLt (k x) (k y)
theorem rows_cmp {vs : List Value} {k : Value → List Int} (hp : ∀ v ∈ vs, TS.TupInts s.heap v (k v)) : SrtO.Cmp prog w A s (tuples' true) (fun p => p.1 ∈ vs) (SrtO.lt2 (ltL k)) := by
  intro p q h1 h2
  have r1 := hp _ h1
  have r2 := hp _ h2
  show wpAny (model prog w) A (keyLt' (tuples' true) p.1 q.1) (fun r s' => s' = s ∧ r = HT.lexLt (k p.1) (k q.1)) (fun _ _ => False) s
  generalize k p.1 = ns at r1 ⊢
  generalize k q.1 = ms at r2 ⊢
  obtain ⟨a, xs, e1, ⟨o, ho, hc, n, hd⟩, i1⟩ := r1
  obtain ⟨b, ys, e2, ⟨o2, ho2, hc2, n2, hd2⟩, i2⟩ := r2
  rw [e1, e2]
  refine PySem.W.kat_lt ho hd ho2 hd2 (rows_lex 0 i1 i2 ?_ ⟨rfl, rfl⟩)
  have l1 := i1.length
  have l2 := i2.length
  rw [Array.length_toList] at l1 l2
  rw [l1, l2]
theorem rows_first {h : Heap} : ∀ {vs : List Value}, (∀ v ∈ vs, ∃ ns, TS.TupInts h v ns ∧ 1 ≤ ns.length) → ∃ fs, PySem.W.KatTups h vs fs ∧ fs.length = vs.length ∧ ∀ f ∈ fs, ∃ n t, f = Value.int n t
  | [], _ => ⟨[], PySem.W.KatTups.nil, rfl, fun f z => absurd z (by simp)⟩
  | v :: vs, g => by
    obtain ⟨fs, k1, k2, k3⟩ := rows_first (vs := vs) fun u z => g u (List.mem_cons_of_mem _ z)
    obtain ⟨ns, ⟨a, xs, rfl, ⟨o, ho, hc, n, hd⟩, hi⟩, hl⟩ := g v List.mem_cons_self
    cases e : xs.toList with
    | nil =>
      rw [e] at hi
      cases hi
      exact absurd hl (by decide)
    | cons y ys =>
      obtain ⟨m, t, hy⟩ := hi.all y (by rw [e]; exact List.mem_cons_self)
      have x0 : xs[0]? = some y := by
        have z := congrArg (fun l : List Value => l[0]?) e
        simpa using z
      refine ⟨y :: fs, PySem.W.KatTups.cons ho hc hd x0 k1, by rw [List.length_cons, List.length_cons, k2], fun f z => ?_⟩
      rcases List.mem_cons.mp z with rfl | z
      · exact ⟨m, t, hy⟩
      · exact k3 f z
theorem rows_able {a : Addr} {vs : List Value} {k : Value → List Int} (h0 : 0 < vs.length) (hp : ∀ v ∈ vs, TS.TupInts s.heap v (k v) ∧ 1 ≤ (k v).length) (ha : ∀ o, s.heap.get? a = some o → o.cls ≠ .type "tuple") : SrtO.SortableO prog w A s a vs (ltL k) := by
  intro h2 keep
  have g : ∀ v ∈ vs, TS.TupInts h2 v (k v) := fun v z => (hp v z).1.keeps fun b o e c => keep b o (fun y => by subst y; exact ha o e c) e
  obtain ⟨fs, k1, k2, k3⟩ := rows_first (h := h2) (vs := vs) fun v z => ⟨_, g v z, (hp v z).2⟩
  refine ⟨tuples' true, fun Q E hq => ?_, rows_cmp g⟩
  refine PySem.W.kat_kind (T := .type "int") k1 (by omega) (fun f z => ?_) (by rfl) ?_
  · obtain ⟨x, t, rfl⟩ := k3 f z
    exact PySem.W.Looks.now
  · have e : (Value.type "int" != Value.type "tuple") = true := by first | decide +kernel | rfl | decide
    rw [e]; exact hq
end
/-! ## a list walked: the outer and the inner loop of a comprehension -/
theorem pi_listK {X : Cx} {K : PySem.W.Frag} {tg e : Expr} {te : TE} (hK : X.K = K) (he : PE X e te) : PI X tg e (iList K te) := by subst hK; exact pi_list he
theorem pi_tupK {X : Cx} {K : PySem.W.Frag} {tg e : Expr} {te : TE} (hK : X.K = K) (he : PE X e te) : PI X tg e (iTup K te) := by subst hK; exact pi_tup he
theorem pa_starK {X : Cx} {K : PySem.W.Frag} {e : Expr} {es : List Expr} {p : Pos} {te : TE} {t : TA} (hK : X.K = K) (he : PE X e te) (hr : PA X es t) (hs : starEach (.Starred e p :: es) X.env = (true, eval e X.env) :: starEach es X.env := by rfl) : PA X (.Starred e p :: es) (StX.tStar K te t) := by subst hK; exact StX.pa_star he hr hs
end Ts
namespace PySem
open Sem (wp)
end PySem
namespace Ts
open PySem PySem.Spec PyProof.Rows L2
/-! ## tuples put together, also with empty ones -/
section
variable {prog : Program} {w : World} {A : Around} {E : Value → Shared → Prop} {s : Shared}
theorem cat_none {t b : Addr} {vs : List Value} {Q : Value → Shared → Prop} (ht : IsTup s.heap t #[]) (hb : IsTup s.heap b vs.toArray) (h : Q (.ref b) s) : wpAny (model prog w) A (binaryOp .Add (.ref t) (.ref b)) Q E s := by
  obtain ⟨⟨c1, d1, k1, l1⟩, o1, e1, n1, g1⟩ := id ht
  obtain ⟨⟨c2, d2, k2, l2⟩, o2, e2, n2, g2⟩ := id hb
  simp only at e1 g1 e2 g2
  subst e1 g1 e2 g2
  exact concat_meets ⟨_, o1, rfl⟩ ⟨_, o2, rfl⟩ noFill_tuple_add seq_tuple_add PySem.F.slot_tuple_add PySem.F.entry_tuple_add (PySem.F.args_tuple_add_2 _ _) (tuple_addW0 t b #[] vs.toArray n1 n2 d1 d2 l1 l2 (by simp)) ⟨o1, o2, h⟩
end
def rCatU (K : PySem.W.Frag) : R2 := fun x y H Q => ∃ a b xs ys, x = .ref a ∧ y = .ref b ∧ SqT K H a xs ∧ SqT K H b ys ∧ xs.length + ys.length ≤ sizeLine ∧
  ∀ p H', Same H H' → (p = a ∨ p = b ∨ H p = none) → SqT K H' p (xs ++ ys) → Q (.ref p) H'
theorem op_catU {X : Cx} : OpR X (binaryOp .Add) (rCatU X.K) := by
  intro pins s σ H x y v u Q I rx ry h
  obtain ⟨a, b, xs, ys, rfl, rfl, ha, hb, hz, q⟩ := id h
  by_cases hx : xs = []
  · subst hx
    cases rx
    cases ry
    obtain ⟨its, r1, p1, _⟩ := I.tuple ha
    obtain ⟨its2, r2, p2, _⟩ := I.tuple hb
    cases r1
    exact cat_none p1 p2 ⟨.ref b, H, I, rfl, q b H (fun _ _ z => z) (.inr (.inl rfl)) hb⟩
  · refine op_catT pins s σ H _ _ v u Q I rx ry ⟨a, b, xs, ys, rfl, rfl, ha, hb, hx, hz, fun e => ?_, fun _ p hp => q p _ (same_new hp) (.inr (.inr hp)) (SqT.of upd_same)⟩
    subst e
    exact q a H (fun _ _ z => z) (.inl rfl) (by rw [List.append_nil]; exact ha)
end Ts
namespace Ts
open PySem PySem.Spec PyProof.Rows L2
/-! ## rows: one of each -/
abbrev rowD (r : List Int) : PyData := .tuple (r.map PyData.int)
/-- each row, with each number of the next ones behind it -/
def growR (rows : List (List Int)) (o : List Int) : List (List Int) := rows.flatMap fun r => o.map fun m => r ++ [m]
def picksR (os : List (List Int)) : List (List Int) := os.foldl growR [[]]
theorem picks_each {os : List (List Int)} : ∀ r ∈ picksR os, r.length = os.length := by
  have go : ∀ (os : List (List Int)) (rows : List (List Int)) (n : Nat), (∀ r ∈ rows, r.length = n) → ∀ r ∈ os.foldl growR rows, r.length = n + os.length := by
    intro os
    induction os with
    | nil => intro rows n h r hr; exact h r hr
    | cons o os ih =>
      intro rows n h r hr
      have h1 := ih (growR rows o) (n + 1) (fun r hr => by
        unfold growR at hr
        obtain ⟨r1, h1, h2⟩ := List.mem_flatMap.mp hr
        obtain ⟨m, _, rfl⟩ := List.mem_map.mp h2
        rw [List.length_append, h r1 h1]; rfl) r hr
      rw [h1, List.length_cons]; omega
  intro r hr
  have := go os [[]] 0 (by simp) r hr
  omega
/-! ## the numbers that keep a work -/
/-- the numbers of ticks with which a work is kept at t -/
def keptL (e p : Nat) (t : Int) : List Int := if t * e % p = 0 then [lowI e p t] else [lowI e p t, lowI e p t + 1]
theorem high_eq {e p : Nat} {t : Int} (hp : 0 < p) : highI e p t = if t * e % p = 0 then lowI e p t else lowI e p t + 1 := by
  unfold highI lowI
  have hp : (0 : Int) < p := by omega
  have h1 := Int.mul_ediv_add_emod (t * e) p
  have h2 := Int.emod_nonneg (t * e) (Int.ne_of_gt hp)
  have h3 := Int.emod_lt_of_pos (t * e) hp
  generalize (t * (e : Int)) = n at *
  generalize n / (p : Int) = q at *
  generalize n % (p : Int) = r at *
  split
  · rename_i h
    rw [show n + p - 1 = (p - 1 : Int) + p * q by omega, Int.add_mul_ediv_left _ _ (Int.ne_of_gt hp), Int.ediv_eq_zero_of_lt (by omega) (by omega)]; omega
  · rename_i h
    rw [show n + p - 1 = (r - 1 : Int) + p * (q + 1) by rw [Int.mul_add]; omega, Int.add_mul_ediv_left _ _ (Int.ne_of_gt hp), Int.ediv_eq_zero_of_lt (by omega) (by omega)]; omega
/-- the options of all works at t -/
def optsR (js : List Job) (t : Int) : List (List Int) := js.map fun j => keptL j.2.1 j.2.2 t
def rowsR (js : List Job) (t : Int) : List (List Int) := picksR (optsR js t)
theorem rows_each {js : List Job} {t : Int} : ∀ r ∈ rowsR js t, r.length = js.length := fun r h => by
  rw [picks_each r h]; exact List.length_map _
/-! ## what is asked -/
abbrev lohiD (t : Int) (j : Job) : PyData := .tuple [.int (lowI j.2.1 j.2.2 t), .int (highI j.2.1 j.2.2 t)]
end Ts
namespace Ts
/-! ## crews as numbers -/
def crewN (ms : List Nat) : Nat := (ms.map fun m => 2 ^ m).sum
def posL {α : Type} (p : α → Bool) : List α → Nat → List Nat
  | [], _ => []
  | x :: r, i => if p x = true then i :: posL p r (i + 1) else posL p r (i + 1)
theorem crew_snoc (ms : List Nat) (m : Nat) : crewN (ms ++ [m]) = crewN ms + 2 ^ m := by simp [crewN]
theorem posL_lt {α : Type} (p : α → Bool) : ∀ (l : List α) (i : Nat), crewN (posL p l i) + 2 ^ i ≤ 2 ^ (i + l.length)
  | [], i => by simp [posL, crewN]
  | x :: r, i => by
    have ih := posL_lt p r (i + 1)
    have e : i + (x :: r).length = i + 1 + r.length := by simp; omega
    rw [e]
    unfold posL
    have e2 : 2 ^ (i + 1) = 2 ^ i + 2 ^ i := by rw [Nat.pow_succ]; omega
    have e3 := Nat.two_pow_pos i
    split
    · show (2 ^ i + crewN (posL p r (i + 1))) + 2 ^ i ≤ _
      omega
    · omega
theorem posL_lt0 {α : Type} (p : α → Bool) (l : List α) : crewN (posL p l 0) < 2 ^ l.length := by
  have := posL_lt p l 0
  rw [Nat.zero_add, Nat.pow_zero] at this; omega
theorem posL_in {α : Type} (p : α → Bool) : ∀ (l : List α) (i : Nat), ∀ m ∈ posL p l i, i ≤ m ∧ m < i + l.length
  | [], i, m, h => by cases h
  | x :: r, i, m, h => by
    unfold posL at h
    have ih := posL_in p r (i + 1)
    rw [List.length_cons]
    split at h
    · rcases List.mem_cons.mp h with rfl | h
      · omega
      · have := ih m h; omega
    · have := ih m h; omega
theorem posL_snoc {α : Type} (p : α → Bool) : ∀ (l : List α) (i : Nat) (x : α), posL p (l ++ [x]) i = posL p l i ++ if p x = true then [i + l.length] else []
  | [], i, x => by
    show (if p x = true then i :: [] else []) = [] ++ _
    simp
  | y :: r, i, x => by
    show (if p y = true then i :: posL p (r ++ [x]) (i + 1) else posL p (r ++ [x]) (i + 1)) = (if p y = true then i :: posL p r (i + 1) else posL p r (i + 1)) ++ _
    rw [posL_snoc p r (i + 1) x]
    have e : i + 1 + r.length = i + (y :: r).length := by simp; omega
    rw [e]
    split <;> simp
theorem posL_len {α : Type} (p : α → Bool) : ∀ (l : List α) (i : Nat), (posL p l i).length ≤ l.length
  | [], _ => Nat.le_refl _
  | x :: r, i => by
    have := posL_len p r (i + 1)
    unfold posL
    rw [List.length_cons]
    split
    · rw [List.length_cons]; omega
    · omega
def sizesN : Nat → List Nat
  | 0 => [0]
  | n + 1 => sizesN n ++ (sizesN n).map (· + 1)
def subsN : Nat → List (List Nat)
  | 0 => [[0]]
  | n + 1 => subsN n ++ (subsN n).map fun w => w ++ w.map (· + 2 ^ n)
theorem sizes_len : ∀ n, (sizesN n).length = 2 ^ n
  | 0 => rfl
  | n + 1 => by rw [sizesN, List.length_append, List.length_map, sizes_len n, Nat.pow_succ]; omega
theorem subs_len : ∀ n, (subsN n).length = 2 ^ n
  | 0 => rfl
  | n + 1 => by rw [subsN, List.length_append, List.length_map, subs_len n, Nat.pow_succ]; omega
/-- what lies within a crew is no greater, and of the same works -/
theorem subs_in : ∀ n, ∀ w ∈ subsN n, w.length ≤ 2 ^ n ∧ ∀ p ∈ w, p < 2 ^ n
  | 0, w, h => by
    have e : w = [0] := by simpa [subsN] using h
    subst e
    refine ⟨by decide, fun p hp => ?_⟩
    have : p = 0 := by simpa using hp
    subst this; decide
  | n + 1, w, h => by
    have e2 : 2 ^ (n + 1) = 2 ^ n + 2 ^ n := by rw [Nat.pow_succ]; omega
    rcases List.mem_append.mp h with h | h
    · obtain ⟨a, b⟩ := subs_in n w h
      exact ⟨by omega, fun p hp => by have := b p hp; omega⟩
    · obtain ⟨u, hu, rfl⟩ := List.mem_map.mp h
      obtain ⟨a, b⟩ := subs_in n u hu
      refine ⟨by rw [List.length_append, List.length_map]; omega, fun p hp => ?_⟩
      rcases List.mem_append.mp hp with hp | hp
      · have := b p hp; omega
      · obtain ⟨q, hq, rfl⟩ := List.mem_map.mp hp
        have := b q hq; omega
/-! ## the walk back -/
/-- the standings of a crew's subsets, as a number -/
def possN (n c : Nat) : Nat := crewN ((subsN n).getD c [])
def notAheadN (n at_ : Nat) : Nat := crewN (((subsN n).getD (2 ^ n - 1) []).filter fun a => a / 2 ^ at_ % 2 == 0)
def stepN (grown at_ others given idle : Nat) : Nat :=
  if grown / 2 ^ at_ % 2 = 1 then given ||| ((idle &&& others) * 2 ^ 2 ^ at_) else idle ||| ((given / 2 ^ 2 ^ at_) &&& others)
/-- pairs of what comes with a hand and without one -/
def pairN (found : List Nat) : List (Nat × Nat) := (found ++ [0]).zip (0 :: found)
def foundN (grown : Nat) : List Nat → Nat → List Nat → List Nat
  | [], _, found => found
  | o :: os, at_, found => foundN grown os (at_ + 1) ((pairN found).map fun q => stepN grown at_ o q.2 q.1)
def beforeN (after grown : Nat) (na : List Nat) (most : Nat) : Nat := ((foundN grown na 0 [after]).take (most + 1)).foldl (· ||| ·) 0
end Ts
namespace Ts
open PySem PySem.Spec PyProof.Rows L2
/-! ## rows of great numbers, written and compared -/
/-- data of short texts and of numbers of up to forty digits -/
structure Fine (w e : Nat) (d : PyData) : Prop where
  sh : d.showable = true
  lv : d.leavesShort 40 = true
  wt : d.weight ≤ w
  dp : d.depth ≤ e
  nd : d.hasDict = false
structure FineAll (w e : Nat) (ds : List PyData) : Prop where
  sh : PyData.showableAll ds = true
  lv : PyData.leavesShortAll 40 ds = true
  wt : PyData.weightAll ds ≤ w
  dp : PyData.depthAll ds ≤ e
  nd : PyData.hasDictAll ds = false
theorem FineAll.nil {w e : Nat} : FineAll w e [] := ⟨rfl, rfl, Nat.zero_le _, Nat.zero_le _, rfl⟩
theorem FineAll.cons {w w' e : Nat} {d : PyData} {ds : List PyData} (h : Fine w e d) (g : FineAll w' e ds) : FineAll (w + 1 + w') e (d :: ds) := by
  have h1 := h.wt
  have h2 := g.wt
  have h3 := h.dp
  have h4 := g.dp
  exact ⟨by show (d.showable && PyData.showableAll ds) = true; rw [h.sh, g.sh]; rfl, by show (d.leavesShort 40 && PyData.leavesShortAll 40 ds) = true; rw [h.lv, g.lv]; rfl, by show d.weight + 1 + PyData.weightAll ds ≤ w + 1 + w'; omega,
    by show max d.depth (PyData.depthAll ds) ≤ e; omega, by show (d.hasDict || PyData.hasDictAll ds) = false; rw [h.nd, g.nd]; rfl⟩
theorem FineAll.tup {w e : Nat} {ds : List PyData} (g : FineAll w e ds) : Fine w (e + 1) (.tuple ds) := ⟨g.sh, g.lv, g.wt, Nat.succ_le_succ g.dp, g.nd⟩
theorem FineAll.lst {w e : Nat} {ds : List PyData} (g : FineAll w e ds) : Fine w (e + 1) (.list ds) := ⟨g.sh, g.lv, g.wt, Nat.succ_le_succ g.dp, g.nd⟩
theorem Fine.mono {w w' e e' : Nat} {d : PyData} (h : Fine w e d) (h1 : w ≤ w') (h2 : e ≤ e') : Fine w' e' d := ⟨h.sh, h.lv, Nat.le_trans h.wt h1, Nat.le_trans h.dp h2, h.nd⟩
theorem FineAll.mono {w w' e e' : Nat} {ds : List PyData} (h : FineAll w e ds) (h1 : w ≤ w') (h2 : e ≤ e') : FineAll w' e' ds := ⟨h.sh, h.lv, Nat.le_trans h.wt h1, Nat.le_trans h.dp h2, h.nd⟩
theorem fine_int {e : Nat} {i : Int} (h0 : 0 ≤ i) (h1 : i < 10 ^ 40) : Fine 140 e (.int i) := by
  obtain ⟨a, b⟩ := int_big h0 h1
  refine ⟨a, decide_eq_true b, ?_, Nat.zero_le _, rfl⟩
  show (if i == 0 then 0 else i.natAbs.log2 + 1) ≤ 140
  split
  · omega
  · by_cases z : i.natAbs = 0
    · rw [z]; decide
    · have k : ((10 : Int) ^ 40) = ((10 ^ 40 : Nat) : Int) := by rw [Int.natCast_pow]; rfl
      rw [k] at h1
      have l : i.natAbs < 10 ^ 40 := by generalize 10 ^ 40 = c at h1 ⊢; omega
      have := (Nat.log2_lt z).mpr (Nat.lt_trans l (by decide +kernel : 10 ^ 40 < 2 ^ 139))
      omega
theorem fine_all {w e : Nat} : ∀ {ds : List PyData}, (∀ d ∈ ds, Fine w e d) → FineAll ((w + 1) * ds.length) e ds
  | [], _ => FineAll.nil
  | d :: ds, h => by
    refine (FineAll.cons (h d List.mem_cons_self) (fine_all (ds := ds) fun x hx => h x (List.mem_cons_of_mem _ hx))).mono ?_ (Nat.le_refl _)
    rw [List.length_cons, Nat.mul_add]; omega
theorem Fine.fits {w e : Nat} {d : PyData} (h : Fine w e d) (h1 : w ≤ 300000) (h2 : e < 60) : d.showable = true ∧ d.hasDict = false ∧ d.depth < 60 ∧ d.shown.length ≤ sizeLine := by
  refine ⟨h.sh, h.nd, Nat.lt_of_le_of_lt h.dp h2, ?_⟩
  have a := PyData.shown_le 40 (by decide) d h.lv
  have b := h.wt
  rw [sizeLine_eq]
  omega
/-! ## equal rows -/
/-! ## draws out of a great many -/
end Ts
namespace Ts
open PySem PySem.Spec PyProof.Rows L2
/-! ## bits of numbers from 0 on -/
theorem and_nat (a b : Nat) : Builtin.bitAnd (a : Int) (b : Int) = ((a &&& b : Nat) : Int) := by
  unfold Builtin.bitAnd
  rw [decide_eq_true (show (0 : Int) ≤ (a : Int) by omega), decide_eq_true (show (0 : Int) ≤ (b : Int) by omega)]
  rfl
theorem not_not (x : Int) : Builtin.bitNot (Builtin.bitNot x) = x := by unfold Builtin.bitNot; omega
theorem not_neg (a : Nat) : ¬ (0 : Int) ≤ Builtin.bitNot (a : Int) := by unfold Builtin.bitNot; omega
theorem or_nat (a b : Nat) : Builtin.bitOr (a : Int) (b : Int) = ((a ||| b : Nat) : Int) := by
  unfold Builtin.bitOr Builtin.bitAnd
  rw [decide_eq_false (not_neg a), decide_eq_false (not_neg b)]
  show Builtin.bitNot (Builtin.bitNot (((Builtin.bitNot (Builtin.bitNot (a : Int))).toNat ||| (Builtin.bitNot (Builtin.bitNot (b : Int))).toNat : Nat) : Int)) = _
  rw [not_not, not_not, not_not]; rfl
/-- of one crew those that are not in the other -/
def needN (g a : Nat) : Nat := g - (g &&& a)
def xorN (g a : Nat) : Nat := (g ||| a) - (g &&& a)
theorem and_not (g a : Nat) : Builtin.bitAnd (g : Int) (Builtin.bitNot (a : Int)) = ((needN g a : Nat) : Int) := by
  unfold Builtin.bitAnd needN
  rw [decide_eq_true (show (0 : Int) ≤ (g : Int) by omega), decide_eq_false (not_neg a)]
  show (g : Int) - (((g : Int).toNat &&& (Builtin.bitNot (Builtin.bitNot (a : Int))).toNat : Nat) : Int) = _
  rw [not_not]
  show (g : Int) - ((g &&& a : Nat) : Int) = _
  have := Nat.and_le_left (n := g) (m := a)
  omega
theorem xor_nat (g a : Nat) : Builtin.bitXor (g : Int) (a : Int) = ((xorN g a : Nat) : Int) := by
  unfold Builtin.bitXor xorN
  rw [and_nat, or_nat]
  have h1 := Nat.and_le_left (n := g) (m := a)
  have h2 : g ≤ g ||| a := Nat.left_le_or
  omega
theorem need_le (g a : Nat) : needN g a ≤ g := Nat.sub_le _ _
theorem need_ge (g a : Nat) : g ≤ a + needN g a := by
  unfold needN
  have := Nat.and_le_right (n := g) (m := a)
  omega
theorem shr_nat (a k : Nat) : (a : Int) / 2 ^ ((k : Int)).toNat = ((a / 2 ^ k : Nat) : Int) := by
  rw [Int.toNat_natCast]; norm_cast
theorem shl_nat (a k : Nat) : (a : Int) * 2 ^ ((k : Int)).toNat = ((a * 2 ^ k : Nat) : Int) := by
  rw [Int.toNat_natCast]; norm_cast
section
variable {X : Cx}
theorem ip_bor : PIp X .BitOr (ipI fun i j => Builtin.bitOr i j) := fun pins s σ H x y v u Q I rx ry h => iop_or pins s σ H x y v u Q I rx ry h
/-- a whole number as a test -/
def tTruI (ta : TE) : TT := fun σ H Q => ta σ H fun x H' => ∃ i : Int, x = .int i ∧ Q (i != 0) H'
theorem pt_truI {a : Expr} {ta : TE} (ha : PE X a ta) (he : ∀ whole, isTrue a X.env whole = (do let v ← whole; standAt a.pos; holding [v] (truthy v)) := by intro _; rfl) : PT X a (tTruI ta) :=
  ⟨fun pins s σ H Q I h => PyProof.Rows.isTrue_plain (thn (ha.run pins s σ H _ I h) fun v s1 ⟨x, H1, I1, r1, i, ex, q1⟩ => tru_ok pins s1 σ H1 x v Q I1 r1 ⟨_, by rw [ex]; exact rfl, q1⟩) (he _)⟩
end
/-! ## lists of numbers -/
abbrev natV (ms : List Nat) : List V := ms.map fun m : Nat => V.int (m : Int)
abbrev natD (ms : List Nat) : List PyData := ms.map fun m : Nat => PyData.int (m : Int)
theorem dp_nats {K : PySem.W.Frag} {H : Hp} : ∀ ms : List Nat, DpAll K H (natV ms) (natD ms)
  | [] => .nil
  | m :: ms => .cons (.int _) (dp_nats ms)
theorem nats_eq {K : PySem.W.Frag} {H : Hp} : ∀ {vs : List V} {ms : List Nat}, DpAll K H vs (natD ms) → vs = natV ms
  | [], [], _ => rfl
  | _ :: _, [], h => nomatch h
  | _, m :: ms, .cons h a => by rw [Dp.int_eq h, nats_eq a]; rfl
theorem Dp.nats {K : PySem.W.Frag} {H : Hp} {v : V} {ms : List Nat} (h : Dp K H v (.list (natD ms))) : ∃ a, v = .ref a ∧ SqL K H a (natV ms) := by
  obtain ⟨a, xs, rfl, h1, h2⟩ := h.list
  rw [nats_eq h2] at h1
  exact ⟨a, rfl, h1⟩
theorem natV_sum (ms : List Nat) : (ms.map fun m : Nat => (m : Int)).sum = ((ms.sum : Nat) : Int) := by
  induction ms with
  | nil => rfl
  | cons m ms ih => rw [List.map_cons, List.sum_cons, List.sum_cons, ih]; norm_cast
theorem cut_toN {xs : List V} {m : Nat} : cutV xs none (some ((m : Int) + 1)) = xs.take (m + 1) := by
  have e : HT.sIx xs.length xs.length (some ((m : Int) + 1)) = min (m + 1) xs.length := by
    show (if ((m : Int) + 1) < 0 then (((m : Int) + 1) + (xs.length : Int)).toNat else min ((m : Int) + 1).toNat xs.length) = _
    rw [if_neg (by omega)]
    congr 1
  unfold cutV
  rw [e, HT.sIx_none, List.drop_zero, Nat.sub_zero]
  by_cases h : m + 1 ≤ xs.length
  · rw [Nat.min_eq_left h]
  · rw [Nat.min_eq_right (by omega), List.take_length, List.take_of_length_le (by omega)]
theorem one_shl (k : Nat) : (1 : Int) * 2 ^ ((k : Int)).toNat = ((2 ^ k : Nat) : Int) := by rw [show (1 : Int) = ((1 : Nat) : Int) from rfl, shl_nat, Nat.one_mul]
theorem odd_test (x : Nat) : (Builtin.bitAnd (x : Int) 1 != 0) = decide (x % 2 = 1) := by
  rw [show (1 : Int) = ((1 : Nat) : Int) from rfl, and_nat, Nat.and_one_is_mod]
  have : x % 2 = 0 ∨ x % 2 = 1 := by omega
  rcases this with z | z <;> rw [z] <;> rfl
def membersN (c : Nat) : List Nat := (List.range (Builtin.Int.intBits (c : Int))).filter fun a => c / 2 ^ a % 2 == 1
def grownL (xs ys : List Int) : Nat := crewN (posL (fun q : Int × Int => decide (q.1 < q.2)) (xs.zip ys) 0)
abbrev subsD (n : Nat) : List PyData := (subsN n).map fun w => PyData.list (natD w)
/-! ## what is asked -/
def spCrewOf (K : PySem.W.Frag) : Sp := fun vs H Q _ => ∃ (a : Addr) (ms : List Nat), vs = [.ref a] ∧ SqL K H a (natV ms) ∧ ms.length ≤ 1000 ∧ (∀ m ∈ ms, m ≤ 1000) ∧ ∀ H', Same H H' → Q (.int (crewN ms)) H'
def spMembersOf : Sp := fun vs H Q _ => ∃ c : Nat, vs = [.int (c : Int)] ∧ c < 1000 ∧ ∀ (p : Addr) (H' : Hp), H p = none → Same H H' → H' p = some (.tup (natV (membersN c))) → Q (.ref p) H'
def spSizesOf : Sp := fun vs H Q _ => ∃ n : Nat, vs = [.int (n : Int)] ∧ n ≤ 6 ∧ ∀ (p : Addr) (H' : Hp), H p = none → Same H H' → H' p = some (.lst (natV (sizesN n))) → Q (.ref p) H'
def spPartsOf (K : PySem.W.Frag) : Sp := fun vs H Q _ => ∃ n : Nat, vs = [.int (n : Int)] ∧ n ≤ 6 ∧ ∀ (p : Addr) (H' : Hp), H p = none → Same H H' → Dp K H' (.ref p) (.list (subsD n)) → Q (.ref p) H'
def spGrown (K : PySem.W.Frag) : Sp := fun vs H Q _ => ∃ (a b : Addr) (xs ys : List Int), vs = [.ref a, .ref b] ∧ SqL K H a (xs.map V.int) ∧ SqL K H b (ys.map V.int) ∧ xs.length = ys.length ∧ xs.length ≤ 6 ∧ ∀ H', Same H H' → Q (.int (grownL xs ys)) H'
def spBefore (K : PySem.W.Frag) : Sp := fun vs H Q _ => ∃ (c g m : Nat) (b : Addr) (os : List Nat), vs = [.int (c : Int), .int (g : Int), .ref b, .int (m : Int)] ∧ SqL K H b (natV os) ∧ os.length ≤ 6 ∧ (∀ o ∈ os, o < 2 ^ 64) ∧ m ≤ 1000 ∧ ∀ H', Same H H' → Q (.int (beforeN c g os m)) H'
end Ts
namespace Ts
open PySem PySem.Spec PyProof.Rows L2 L2H LamX
/-! ## try .. except (A, B, C) as e -/
theorem ff_keep {h h' base : Heap} (k : ∀ (b : Addr) (o : Obj), h.get? b = some o → h'.get? b = some o) : ∀ {l : List Env}, h.FunFrames base l → h'.FunFrames base l
  | [], _ => trivial
  | env :: rest, z => by
    obtain ⟨z1, ⟨L, o, z2, z3, z4, z5⟩, z6⟩ := z
    exact ⟨z1, ⟨L, o, z2, z3, k _ _ z4, z5⟩, ff_keep k z6⟩
theorem fly_keep {base h h' : Heap} {l : List Env} {e : Addr} {Z : Obj → Prop} (k : ∀ (b : Addr) (o : Obj), h.get? b = some o → h'.get? b = some o) (z : HandSPX.FlyingZ base l e Z h) : HandSPX.FlyingZ base l e Z h' := by
  obtain ⟨z1, z2, z3, oe, vs, T, oT, ts, t1, t2, t3, t4, t5, t6, t7, t8, t9⟩ := z
  exact ⟨fun b o e => k _ _ (z1 b o e), z2, ff_keep k z3, oe, vs, T, oT, ts, k _ _ t1, t2, t3, t4, t5, t6, k _ _ t7, t8, t9⟩
def wTup (K : PySem.W.Frag) (cs : List Value) (i : Nat) (ts : Addr → Value → Option Addr → TS) (D : Ends) : WX := fun cls d σ H => PySem.W.exmAny K cls cs = some true ∧ ∀ a, H a = none →
  ts a cls d { nx := fun σ' H' => D.nx (σ'.set i none) H', rt := D.rt, bk := fun σ' H' => D.bk (σ'.set i none) H', ct := fun σ' H' => D.ct (σ'.set i none) H' } (σ.set i (some (.ref a))) H
theorem ld_name {X : Cx} {E : Value → Shared → Prop} {pins : List (Addr × Obj)} {s : Shared} {σ : L2.St} {H : Hp} {x : Str} {c : Value} {pos : Pos} {Q : Value → Shared → Prop} (I : L2.Inv X pins σ H s) (hc : Names X x c) (q : Q c s) :
    wpAny (model X.prog X.w) X.A (eval (.Name x pos) X.env) Q E s := by
  obtain ⟨hg, hd, hm | ⟨hm, hv, hn⟩⟩ := hc
  · exact ld_glob I hg hm q hd
  · exact ld_blt I hg hm hv q hn hd
theorem ps_try_tup3 {X : Cx} {x1 x2 x3 n : Str} {c1 c2 c3 : Value} {i k1 : Nat} {body suite : List Stmt} {b₀ : Stmt} {np1 np2 np3 tp pos pos' : Pos} {tb : WX → TS} {ts : Addr → Value → Option Addr → TS}
    (hs : X.stack = X.env :: X.outer) (hf : X.env.frame = some X.env.locals) (hN : X.N.Nodup) (hi : X.N[i]? = some n) (hln : X.env.kindOf n = some NameKind.local) (hc1 : Names X x1 c1) (hc2 : Names X x2 c2) (hc3 : Names X x3 c3)
    (hb : ∀ (W : WX) (pn : List (Addr × Obj)) (xe : Value → Shared → Prop), Takes (X.tr pn xe) W → PassesOwn (model X.prog X.w) X.A X.env xe → PSs (X.tr pn xe) body (tb W))
    (hsu : ∀ (a : Addr) (oe : Obj) (cls : Value) (d : Option Addr) (pn : List (Addr × Obj)), Zc cls d oe → (∃ vs, oe.data = Data.fields vs) → PSs (X.suite a ((a, oe) :: pn)) (b₀ :: suite) (ts a cls d)) :
    PS X (.Try body [.ExceptHandler (some (.Tuple [.Name x1 np1, .Name x2 np2, .Name x3 np3] k1 tp)) (some n) (b₀ :: suite) pos'] [] [] pos) fun D σ H => tb (wTup X.K [c1, c2, c3] i ts D) D σ H := by
  refine ⟨fun pins s σ H D I h => ?_⟩
  have ok := I.ok
  have hfr : X.A.frames = some (X.env :: X.outer) := by rw [ok.frames, hs]
  refine wpAny_Try_except (wpAny_mono ((hb (wTup X.K [c1, c2, c3] i ts D) (X.pn ++ pins) (fun e s₁ => wpAny (model X.prog X.w) X.A (noteFrame e X.env) (fun _ s₂ => wpAny (model X.prog X.w) X.A (setFlight e none) (fun _ s₃ => wpAny (model X.prog X.w) X.A (handleBy e X.env [.ExceptHandler (some (.Tuple [.Name x1 np1, .Name x2 np2, .Name x3 np3] k1 tp)) (some n) (b₀ :: suite) pos']) (SP X pins D) X.xe s₃) X.xe s₂) X.xe s₁) (fun u s' xx => ?_) PassesOwn.looking).run [] s σ H D (I.toTry _) h) (fun f s1 hsp => ?_) (fun e s1 he => he))
  · obtain ⟨a, B, sI, pins', σ', H', cls, d, rfl, J', nb, up, sky, na, os, ag, hm, hyes⟩ := xx
    have J := J'.ofTry ok
    have sky' : Sky B (X.env :: X.outer) a (Zc cls d) X.env.locals s'.heap := by rw [← hs]; exact sky
    refine Sky.land Zc.steady hfr hf sky' fun h3 fl3 up3 => ?_
    have J3 := J.landed (s' := { heap := h3, gens := s'.gens, drawn := s'.drawn, toks := s'.toks, os := s'.os }) nb fl3.1 (up.trans up3) os ag
    obtain ⟨oe3, vs3, he3, hz3, hd3⟩ := HandSPX.FlyingZ.there fl3
    have nfr : a ∉ List.filterMap (fun x : Env => x.frame) (X.env :: X.outer) := fun hm => by
      obtain ⟨_, o', e', hnf⟩ := Heap.FunFrames.mem fl3.2.2.1 hm
      rw [he3] at e'
      cases e'
      exact hnf _ hd3
    have nL : a ≠ X.env.locals := fun z => nfr (List.mem_filterMap.mpr ⟨X.env, List.mem_cons_self, by rw [hf, z]⟩)
    have nF : a ∉ X.fs := fun hm => by
      obtain ⟨e, he, q⟩ := List.mem_filterMap.mp hm
      exact nfr (List.mem_filterMap.mpr ⟨e, List.mem_cons_of_mem _ he, q⟩)
    have S3 := J3.suite he3 hd3 na nL nF
    refine wpAny_handleBy_cons ?_ (fun q => by cases q)
    refine codeAny_handlers_test (wpAny_Tuple_spliced ?_)
    refine Calls.spliced_cons (ld_name S3 hc1 (Calls.spliced_cons (ld_name S3 hc2 (Calls.spliced_cons (ld_name S3 hc3 (Calls.spliced_nil ?_))))))
    have kp : ∀ (b : Addr) (o : Obj), h3.get? b = some o → (h3.push { cls := Value.type "tuple", data := Data.seq #[c1, c2, c3] }).get? b = some o := fun b o e => Heap.get?_push_of_some _ e
    have tp3 : (h3.push { cls := Value.type "tuple", data := Data.seq #[c1, c2, c3] }).get? h3.objs.size = some { cls := Value.type "tuple", data := Data.seq #[c1, c2, c3] } := Heap.get?_push_size h3 rfl
    refine ⟨by show 3 ≤ sizeLine; decide, ?_⟩
    have fl5 := fly_keep kp fl3
    have up5 : h3.UpToSlots (h3.push { cls := Value.type "tuple", data := Data.seq #[c1, c2, c3] }) := fun b o e _ => ⟨o.slots, kp b o e⟩
    have KX := (Inv.kIn J3).keeps kp
    have LM := PySem.W.exm_tup3 (M := model X.prog X.w) (e := a) KX (fun A Q E s k' q => wpAny_typeOf_ref (k' a oe3 (kp _ _ he3)) (by rw [hz3.1]; exact q)) tp3 hm
    revert fl5 up5 KX LM kp tp3
    generalize h3.push { cls := Value.type "tuple", data := Data.seq #[c1, c2, c3] } = h5
    intro kp tp3 fl5 up5 KX LM
    refine PySem.W.Looks.here LM ?_
    refine codeAny_handlers_suite_as (HandSPX.lands_againZ fl5 fun h4 fl4 up4 => ?_)
    have J4 := J.landed (s' := { heap := h4, gens := s'.gens, drawn := s'.drawn, toks := s'.toks, os := s'.os }) nb fl4.1 (((up.trans up3).trans up5).trans up4) os ag
    obtain ⟨oe4, vs4, he4, hz4, hd4⟩ := HandSPX.FlyingZ.there fl4
    have S4 := J4.suite he4 hd4 na nL nF
    refine store_ok (X := X.suite a ((a, oe4) :: (X.pn ++ pins))) (v := .ref a) S4 hN hi (Or.inl hln) rfl (fun s5 S5 => ?_) (Or.inr hln)
    refine wpAny_mono ((hsu a oe4 cls d (X.pn ++ pins) hz4 ⟨vs4, hd4⟩).run [] s5 (σ'.set i (some (.ref a))) H' _ S5 (hyes a na)) (fun f s6 hsp => ?_) (fun _ _ z => z.elim)
    have end_ : ∀ {σ6 : L2.St} {H6 : Hp} {Q : Unit → Shared → Prop}, L2.Inv (X.suite a ((a, oe4) :: (X.pn ++ pins))) [] σ6 H6 s6 → (∀ s7, L2.Inv X pins (σ6.set i none) H6 s7 → Q () s7) → wpAny (model X.prog X.w) X.A (do
        bindName X.env n Value.none
        unbindBehindTheSuite X.env n pos') Q X.xe s6 := fun S6 hq => gone_ok (S6.unsuite ok) hN hi hln hq
    cases f with
    | next => obtain ⟨σ6, H6, S6, q6⟩ := hsp; exact end_ S6 fun s7 J7 => ⟨_, H6, J7, q6⟩
    | brk => obtain ⟨σ6, H6, S6, q6⟩ := hsp; exact end_ S6 fun s7 J7 => ⟨_, H6, J7, q6⟩
    | cont => obtain ⟨σ6, H6, S6, q6⟩ := hsp; exact end_ S6 fun s7 J7 => ⟨_, H6, J7, q6⟩
    | ret u => obtain ⟨v6, σ6, H6, S6, r6, q6⟩ := hsp; exact end_ S6 fun s7 J7 => ⟨v6, _, H6, J7, r6, q6⟩
  · cases f with
    | next => obtain ⟨σ', H', J', q⟩ := hsp; exact wpAny_execs_nil ⟨σ', H', J'.ofTry ok, q⟩
    | brk => obtain ⟨σ', H', J', q⟩ := hsp; exact ⟨σ', H', J'.ofTry ok, q⟩
    | cont => obtain ⟨σ', H', J', q⟩ := hsp; exact ⟨σ', H', J'.ofTry ok, q⟩
    | ret u => obtain ⟨v, σ', H', J', r, q⟩ := hsp; exact ⟨v, σ', H', J'.ofTry ok, r, q⟩
/-! ## defs called within an except suite: they know the error that is handled -/
section
variable (P : Program) (w : World) (K : PySem.W.Frag) (mg : Str → Option Value) (base : Heap)
structure FnP (k : Nat) (f : Addr) (fd : FuncData) (ps : List Str) (sp : Addr × Obj → Sp) : Prop where
  len : ∀ p vs H Q E, sp p vs H Q E → vs.length = ps.length
  go : ∀ (A : Around) (out : List Env) (s : Shared) (H : Hp) (us : List Value) (vs : List V) (Q : VK) (p : Addr × Obj), RoomH k A → PinOk out H s p → Env0 P w K mg base A out s H →
    BindsTo s fd ⟨us, []⟩ (ps.zip us) → Vals vs us → sp p vs H Q E0 → codeAny (model P w) A (.call (.ref f) ⟨us, []⟩) (CR CX0 out P w H s Q E0) s
structure HasP (k : Nat) (x : Str) (ps : List Str) (sp : Addr × Obj → Sp) : Prop where
  ex : ∃ f fd, FnP P w K mg base k f fd ps sp ∧ mg x = some (.ref f) ∧ PySem.W.keepIn K (.ref f) = true ∧ Binds K fd ps []
end
section
variable {P : Program} {w : World} {K : PySem.W.Frag} {mg : Str → Option Value} {base : Heap}
theorem DefAt.hasP {x : Str} {st : Stmt} {k : Nat} {ps : List Str} {sp : Addr × Obj → Sp} (D : DefAt K mg x st)
    (hb : ∀ (kV doc pm : Value) (an : Option Addr) (cdv ct : Value) (us : List Value), us.length = ps.length → bindArgs (PySem.W.fnOf x x (defArgs st) (defBody st) (defScope st) .none kV doc pm an cdv ct) ⟨us, []⟩ = pure (ps.zip us))
    (ok : ∀ f fd, Fun K x x st f fd → FnP P w K mg base k f fd ps sp) : HasP P w K mg base k x ps sp := by
  obtain ⟨f, fd, F, hm⟩ := D.ex
  exact ⟨f, fd, ok f fd F, hm, F.kp, F.binds hb⟩
theorem fun_p {x qual : Str} {st : Stmt} {f : Addr} {fd : FuncData} {N ps : List Str} {k : Nat} {sp : Addr × Obj → Sp} (F : Fun K x qual st f fd) (S : FnScope N ps (defScope st))
    (ln : ∀ p vs H Q E, sp p vs H Q E → vs.length = ps.length)
    (hb : ∀ (cdv : Value) (A : Around) (out : List Env) (s : Shared) (H : Hp) (vs : List V) (Q : VK) (p : Addr × Obj), RoomH k (A.deeper (envOfC qual (defScope st) s.heap.objs.size f cdv)) → sp p vs H Q E0 →
      ∃ t, PSs (cxH CX0 P w K mg base N qual (defScope st) f cdv A out s H E0 p) (defBody st) t ∧ t { nx := fun _ H' => Q .non H', rt := Q } (start N vs) H) : FnP P w K mg base (k + 1) f fd ps sp := by
  obtain ⟨oc, od, kV, doc, pm, an, cdv, ct, osl, rfl, lk, hcd⟩ := F.ex
  refine ⟨ln, fun A out s H us vs Q p hr hpin e0 hbd r q => ?_⟩
  have hl := ln p vs H Q E0 q
  have KX := PySem.W.Frag.In.keeps e0.mod.kin fun b o e => (e0.bs b o e).1
  have lim := Heap.NoLimit.keeps e0.mod.nolimit fun b o e => (e0.bs b o e).1
  have hkind : ∀ y ∈ ps.zip us, (defScope st).names.lookup y.1 = some .local ∨ ((defScope st).names.lookup y.1 = some .cell ∧ ((cellsFrom (s.heap.objs.size + 1) (defScope st).names []).lookup y.1).isSome = true) := by
    intro y hy
    have hm : y.1 ∈ ps := (List.of_mem_zip (a := y.1) (b := y.2) hy).1
    rcases S.par _ hm with z | z
    · exact Or.inl z
    · exact Or.inr ⟨z, PySem.W.cellsFrom_some _ _ _ (Or.inl z)⟩
  refine codeAny_call_function (RoomH.depth hr) (KX _ _ lk) rfl S.co S.gen rfl (PySem.W.codeRec_of KX hcd) (hbd _ _ _ _ ?_)
  refine wpAny_newFunctionEnv_cells S.kind hkind fun env he s1 ic => ?_
  subst he
  refine ⟨lim.keeps ic.toInCall.keep, codeAny_func ?_⟩
  obtain ⟨t, ht, hq⟩ := hb cdv A out s H vs Q p (hr.deeper _) q
  have J := inv_startH (CX := CX0) (E := E0) S hpin e0 hl r ic
  refine wpAny_mono (ht.run [] s1 (start N vs) H _ J hq) (fun fl s2 z => ?_) fun er s2 z => z
  cases fl with
  | ret u => obtain ⟨v, σ2, H2, J2, rv, q2⟩ := z; exact ⟨v, H2, J2.os, J2.bare, J2.base, J2.hok, rv, q2⟩
  | next => obtain ⟨σ2, H2, J2, q2⟩ := z; exact ⟨V.non, H2, J2.os, J2.bare, J2.base, J2.hok, rfl, q2⟩
  | brk => obtain ⟨_, _, _, z2⟩ := z; exact z2.elim
  | cont => obtain ⟨_, _, _, z2⟩ := z; exact z2.elim
end
section
variable {X : Cx} {k : Nat} {x : Str} {ps : List Str} {sp : Addr × Obj → Sp} {p : Addr × Obj} {q pos : Pos} {e : Expr} {es : List Expr} {t : TA}
/-- a call within an except suite, or within a def called there -/
theorem pe_p (h : HasP X.prog X.w X.K X.mg X.base k x ps sp) (hp : p ∈ X.pn) (hr : RoomH k X.A) (ha : PA X (e :: es) t) (hg : Gl X x := by rfl) (hdb : (x == ("__debug__" : Str)) = false := by decide)
    (he : starEach (e :: es) X.env = (false, eval e X.env) :: starEach es X.env := by rfl) (hpl : (backTo pos (starEach es X.env)).any (·.1) = false := by rfl) :
    PE X (.Call (.Name x q) (e :: es) [] pos) (tCall (sp p) [] E0 t) := by
  obtain ⟨f, fd, F, hm, hk, hb⟩ := h.ex
  refine ⟨fun pins s σ H Q I g => ?_⟩
  refine wpAny_Call_Name_kw (ld_glob I hg hm ?_ hdb)
  refine PySem.W.callWith_K (h₀ := X.base) I.ok.mod.kin hk (thn (ha.run pos pins s σ H _ I g) fun us s1 hq => ?_) he hpl
  obtain ⟨vs, H1, I1, r, q1⟩ := hq
  have q2 : sp p vs H1 Q E0 := by rw [List.append_nil] at q1; exact q1
  have P1 := I1.pin p (List.mem_append_left pins hp)
  have hpin : PinOk X.stack H1 s1 p := ⟨P1.1, P1.2.1, fun hm => Or.elim (List.mem_cons.mp (Inv.stkSub I1 p.1 hm)) P1.2.2.1 P1.2.2.2.1, P1.2.2.2.2⟩
  refine ⟨I1.kIn, wpAny_call (codeAny_mono (F.go X.A X.stack s1 H1 us vs Q p hr hpin I1.env0 ?_ r q2) fun rr s2 z => ?_)⟩
  · have := hb s1 us I1.kIn (by rw [List.append_nil, ← r.length]; exact F.len _ _ _ _ _ q2)
    rw [List.append_nil] at this; exact this
  · cases rr with
    | error er => exact z.elim
    | ok fl => cases fl with
      | ret u => exact I1.after z
      | next => exact z.elim
      | brk => exact z.elim
      | cont => exact z.elim
/-! ## what an error that is handled is asked -/
/-- what the written part says of an error's class -/
structure ExcK (K : PySem.W.Frag) (C : Addr) : Prop where
  ic : (PySem.W.clsIn K C).isSome = true
  ga : PySem.W.findIn K (.ref C) "__getattribute__" = some (some (.builtin "BaseException.__getattribute__"))
  gg : PySem.W.findIn K (.ref C) "__getattr__" = some none
  sb : PySem.W.subIn K (.ref C) (.type "BaseException") = some true
  ca : PySem.W.findIn K (.ref C) "__class__" = some (some (.builtin "object.__class__"))
  cb : PySem.W.specialIn K (.builtin "object.__class__") "__get__" = some (some (.builtin "getset_descriptor.__get__"))
  cc : PySem.W.takesIn K (.builtin "object.__class__") = some true
  cm : PySem.W.mroIn K C (.type "object") = some true
  hd : PySem.W.hasDictIn K C = true
/-- an error at p: its class, its fields -/
def ErrAt (H : Hp) (p : Addr × Obj) (C : Addr) (fs : List (Str × V)) : Prop := (∃ vs, p.2.data = Data.fields vs) ∧ ((∃ d, Zc (.ref C) (some d) p.2 ∧ H d = some (.xd fs)) ∨ (Zc (.ref C) none p.2 ∧ fs = []))
theorem ErrAt.mono {H H' : Hp} {p : Addr × Obj} {C : Addr} {fs : List (Str × V)} (h : ErrAt H p C fs) (s : Same H H') : ErrAt H' p C fs := by
  obtain ⟨h2, ⟨d, h1, h3⟩ | h1⟩ := h
  · exact ⟨h2, .inl ⟨d, h1, s _ _ h3⟩⟩
  · exact ⟨h2, .inr h1⟩
theorem err_inst {X : Cx} {pins : List (Addr × Obj)} {σ : L2.St} {H : Hp} {s : Shared} {p : Addr × Obj} {C : Addr} {fs : List (Str × V)} {f : Str} {v : V} (I : L2.Inv X pins σ H s) (hp : p ∈ X.pn) (h : ErrAt H p C fs) (hv : List.lookup f fs = some v) :
    ∃ (od : Obj) (mA : Str → Option Value), PySem.W.InstAt s.heap p.1 p.2 C (some od) ∧ (∀ name : Str, PySem.W.lookIn name od = some (mA name)) ∧ ∀ f : Str, RelO (List.lookup f fs) (mA f) := by
  obtain ⟨⟨vs, hd⟩, ⟨d, hz, hx⟩ | ⟨_, rfl⟩⟩ := h
  · obtain ⟨mA, hns, hr⟩ := I.hok d _ hx
    obtain ⟨od, ho, hl⟩ := lookIn_ns hns
    exact ⟨od, mA, ⟨(I.pin p (List.mem_append_left pins hp)).1, hz.1, by unfold PySem.W.notCls; rw [hd] <;> rfl, by rw [hz.2]; exact ho⟩, hl, hr⟩
  · cases hv
theorem err_inst0 {X : Cx} {pins : List (Addr × Obj)} {σ : L2.St} {H : Hp} {s : Shared} {p : Addr × Obj} {C : Addr} {fs : List (Str × V)} (I : L2.Inv X pins σ H s) (hp : p ∈ X.pn) (h : ErrAt H p C fs) : ∃ od : Option Obj, PySem.W.InstAt s.heap p.1 p.2 C od := by
  obtain ⟨⟨vs, hd⟩, ⟨d, hz, hx⟩ | ⟨hz, _⟩⟩ := h
  · obtain ⟨mA, hns, hr⟩ := I.hok d _ hx
    obtain ⟨od, ho, hl⟩ := lookIn_ns hns
    exact ⟨some od, ⟨(I.pin p (List.mem_append_left pins hp)).1, hz.1, by unfold PySem.W.notCls; rw [hd] <;> rfl, by rw [hz.2]; exact ho⟩⟩
  · exact ⟨none, ⟨(I.pin p (List.mem_append_left pins hp)).1, hz.1, by unfold PySem.W.notCls; rw [hd] <;> rfl, by rw [hz.2]; trivial⟩⟩
/-- isinstance(e, T) -/
def rIsP (K : PySem.W.Frag) (p : Addr × Obj) : List V → Hp → VK → Prop := fun xs H Q => ∃ (c : V) (cv : Value) (b : Bool) (C : Addr) (fs : List (Str × V)), xs = [.ref p.1, c] ∧ (∀ u, RelV c u → u = cv) ∧ ExcK K C ∧ ErrAt H p C fs ∧ PySem.W.kitOne K (.ref C) cv = some b ∧ Q (.bl b) H
theorem call_isP {p : Addr × Obj} (hp : p ∈ X.pn) : CallR X (.builtin "isinstance") (rIsP X.K p) := by
  intro pins s σ H xs us Q I r h
  obtain ⟨c, cv, b, C, fs, rfl, hcv, hK, hE, e, q⟩ := h
  cases r with
  | cons q1 rest =>
    cases rest with
    | cons q2 rest =>
      cases rest
      cases q1
      have ec := hcv _ q2
      subst ec
      obtain ⟨od, J⟩ := err_inst0 I hp hE
      exact PySem.W.kia_one (PySem.W.kitx_exc hK.ic hK.ga hK.gg hK.sb hK.ca hK.cb hK.cc hK.cm) I.kIn J e (fun z => nomatch z) fun tk => ⟨.bl b, H, I.kept fun _ _ z => z, rfl, q⟩
/-- e.f -/
def tErr (K : PySem.W.Frag) (p : Addr × Obj) (f : Str) (te : TE) : TE := fun σ H Q => te σ H fun x H1 => x = .ref p.1 ∧ ∃ (C : Addr) (fs : List (Str × V)) (v : V), ExcK K C ∧ PySem.W.findIn K (.ref C) f = some none ∧ ErrAt H1 p C fs ∧ List.lookup f fs = some v ∧ Q v H1
theorem pe_err {p : Addr × Obj} {e : Expr} {te : TE} {f : Str} {pos : Pos} (hp : p ∈ X.pn) (he : PE X e te) (hb : attributeBase e f X.env (eval e X.env) = eval e X.env := by rfl) : PE X (.Attribute e f pos) (tErr X.K p f te) := by
  refine ⟨fun pins s σ H Q I h => ?_⟩
  refine attr_of hb (thn (he.run pins s σ H _ I h) fun u s1 hh => ?_)
  obtain ⟨x, H1, I1, rx, ex, C, fs, v, hK, noN, hE, hl, q⟩ := hh
  subst ex
  obtain rfl : u = Value.ref p.1 := rx
  obtain ⟨od, mA, J, hlk, hr⟩ := err_inst I1 hp hE hl
  obtain ⟨u, hu, ru⟩ := RelO.some_of (v := v) (o := mA f) (by rw [← hl]; exact hr f)
  exact HandSPX.exc_get I1.kIn J hK.ga hK.gg hK.sb (PySem.W.findObj_own hK.hd noN rfl (by rw [hlk, hu])) (handed_of ru) ⟨v, H1, I1.tok _, ru, q⟩
end
/-! ## own errors of one field are raised -/
def spErr (C : Addr) (fld : Str) : Sp := fun vs H Q _ => ∃ (a : Addr) (v : V), vs = [.ref a, v] ∧ H a = some (exo a C none) ∧ ∀ d, H d = none → d ≠ a → Q .non (upd (upd H d (exd d [(fld, v)])) a (exo a C (some d)))
/-- what is behind the making of an error -/
theorem mk_err {C : Addr} {fld : Str} {v : V} {H1 : Hp} {Q : XK} (q : ∀ d, H1 d = none → Q (.ref C) (some d) (upd H1 d (.xd [(fld, v)]))) :
    [v].length ≤ 1000 ∧ ∀ a : Addr, H1 a = none → spErr C fld (.ref a :: ([v] ++ [])) (upd H1 a (exo a C none))
      (fun v H2 => v = .non ∧ ∃ (d : Addr) (fs : List (Str × V)), H2 a = some (exo a C (some d)) ∧ H2 d = some (exd d fs) ∧ H1 d = none ∧ Q (.ref C) (some d) (upd (del H2 a) d (.xd fs))) (fun _ _ _ => False) := by
  refine ⟨by show 1 ≤ 1000; decide, fun a ha => ⟨a, v, rfl, upd_same, fun d hd hne => ⟨rfl, d, [(fld, v)], upd_same, ?_, ?_, ?_⟩⟩⟩
  · rw [upd_ne hne, upd_same]
  · rw [upd_ne hne] at hd; exact hd
  · have hd' : H1 d = none := by rw [upd_ne hne] at hd; exact hd
    have e : upd (del (upd (upd (upd H1 a (exo a C none)) d (exd d [(fld, v)])) a (exo a C (some d))) a) d (.xd [(fld, v)]) = upd H1 d (.xd [(fld, v)]) := by
      funext b
      by_cases h1 : b = d
      · rw [h1, upd_same, upd_same]
      · rw [upd_ne h1, upd_ne h1]
        by_cases h2 : b = a
        · rw [h2, del_same, ha]
        · rw [del_ne h2, upd_ne h2, upd_ne h1, upd_ne h2]
    rw [e]
    exact q d hd'
end Ts
namespace Ts
open PySem PySem.Spec PyProof.Rows L2 L2H LamX
/-! ## lists of truths: how often, and where first -/
/-! ## the classes of errors that the laws tell apart -/
structure Cls11 where
  (t n m s g l o f u y a : Addr)
abbrev Cls11.list (c : Cls11) : List Addr := [c.t, c.n, c.m, c.s, c.g, c.l, c.o, c.f, c.u, c.y, c.a]
structure Bas3 where
  (v w x : Addr)
end Ts
namespace Ts
open PySem PySem.Spec PyProof.Rows L2 L2H LamX
/-- what repr says of a value -/
def ShownV (K : PySem.W.Frag) (H : Hp) (v : V) (t : Str) : Prop := ∃ d, Dp K H v d ∧ d.showable = true ∧ d.hasDict = false ∧ d.depth < 60 ∧ d.shown.length ≤ sizeLine ∧ t = d.shown
theorem ShownV.mono {K : PySem.W.Frag} {H H' : Hp} {v : V} {t : Str} (h : ShownV K H v t) (s : Same H H') : ShownV K H' v t := by
  obtain ⟨d, h1, h2⟩ := h
  exact ⟨d, h1.mono s, h2⟩
end Ts
namespace Ts
open PySem PySem.Spec PyProof.Rows L2 LamX
/-! ## the law is called, no repr around, where lambdas are made: tables of code are told, too -/
def tellT (ts : List Addr) (yes : Bool) (a : Addr) (vs : List Value) (ns : List Int) : Hp := fun c => if c ∈ ts then some (.tbl #[]) else tells yes a vs ns c
theorem end_GT {P : Program} {w : World} {K : PySem.W.Frag} {mg mb : Str → Option Value} {k : Nat} {fa a : Addr} {cs : List (Addr × Addr)} {fd : FuncData} {x : Str} {sp : Sp} {t : Shared} {vs : List Value} {ns : List Int}
    (inK : K.In t.heap) (nsM : t.heap.Ns mainGlobals mg) (nsB : t.heap.Ns builtinsNs mb) (boot : ∀ y : Str, y ≠ "__name__" → mb y = bootBuiltins y) (lim : t.heap.NoLimit) (gens : t.gens = #[])
    (hT : ∀ p ∈ cs, t.heap.get? p.2 = some { cls := .none, data := .fields #[] }) (nT : ∀ p ∈ cs, K.lookup p.2 = none) (C : ∀ p ∈ cs, PySem.W.CodeHd t.heap p.1 p.2)
    (hbm : ∃ bm ob, mg "__builtins__" = some (.ref bm) ∧ bm ≠ builtinsNs ∧ t.heap.get? bm = some ob ∧ ob.cls = .type "module" ∧ ob.dict = some builtinsNs ∧ ob.data = .plain)
    (at_ : t.heap.get? a = some { cls := .type "list", data := .seq vs.toArray }) (allInt : IntsAre vs ns) (few : ns.length ≤ sizeLine) (room : Room k callerA)
    (G : ∀ base : Heap, K.In base → base.Ns mainGlobals mg → (∀ p ∈ cs, TabB base mg p.1 p.2) → FnG P w K mg base k fa fd [x] sp) (bind : ∀ (s : Shared) (u : Value), BindsTo s fd ⟨[u], []⟩ [(x, u)])
    (good : ∀ H : Hp, (∀ p ∈ cs, H p.2 = some (.tbl #[])) → SqL K H a (ns.map V.int) → sp [.ref a] H (fun v _ => v = .bl true) E0) :
    codeAny (model P w) callerA (.call (.ref fa) ⟨[.ref a], []⟩) (fun r z => r = .ok (.ret (.bool true)) ∧ OldK t.heap z.heap ∧ z.os = t.os ∧ AllBare z.gens) t := by
  have vals := vals_ints allInt
  have isT : ∀ c ∈ cs.map Prod.snd, t.heap.get? c = some { cls := .none, data := .fields #[] } ∧ K.lookup c = none := fun c hc => by
    obtain ⟨p, hp, rfl⟩ := List.mem_map.mp hc
    exact ⟨hT p hp, nT p hp⟩
  have aT : a ∉ cs.map Prod.snd := fun z => by
    have := (isT a z).1
    rw [at_] at this
    cases this
  generalize hy : (K.lookup a).isNone = yes
  have H0 : ∃ H, H = tellT (cs.map Prod.snd) yes a vs ns := ⟨_, rfl⟩
  obtain ⟨H, eH⟩ := H0
  have told : ∀ {c : Addr} {u : HO}, H c = some u → (c ∈ cs.map Prod.snd ∧ u = .tbl #[]) ∨ (c = a ∧ yes = true ∧ u = .frz { cls := .type "list", data := .seq vs.toArray } (.lst (ns.map V.int))) := fun {c u} h => by
    rw [eH] at h
    unfold tellT at h
    split at h
    · exact .inl ⟨by assumption, (Option.some.inj h).symm⟩
    · exact .inr (tells_at h)
  have tabs : ∀ p ∈ cs, H p.2 = some (.tbl #[]) := fun p hp => by
    rw [eH]; unfold tellT
    rw [if_pos (List.mem_map.mpr ⟨p, hp, rfl⟩)]
  have okH : HOk P w H t.heap := fun c u h => by
    rcases told h with ⟨h1, rfl⟩ | ⟨rfl, _, rfl⟩
    · exact (isT c h1).1
    · exact ⟨at_, by rw [List.length_map]; exact few, vs, _, vals, at_⟩
  have seqH : SqL K H a (ns.map V.int) := by
    cases e : K.lookup a with
    | none =>
      have yt : yes = true := by rw [← hy, e]; rfl
      refine .inl (.inr ⟨{ cls := .type "list", data := .seq vs.toArray }, ?_⟩)
      rw [eH]; unfold tellT tells
      rw [if_neg aT, if_pos rfl, if_pos yt]
    | some o =>
      have eo := inK a o e
      rw [at_] at eo
      cases eo
      exact .inr ⟨_, vs.toArray, _, e, rfl, rfl, rfl, by rw [List.size_toArray, allInt.length]; exact few, by simpa using vals⟩
  have still : ∀ {c : Addr} {o : Obj}, t.heap.get? c = some o → H c = none → (hidT t.heap H).get? c = some o := fun e n => hidT_get e n
  -- what is told is a list or a table
  have off : ∀ {c : Addr} {o : Obj}, t.heap.get? c = some o → (∀ vs n, o.data ≠ .seq vs n) → o.data ≠ .fields #[] → H c = none := fun {c o} e h1 h2 => by
    cases hc : H c with
    | none => rfl
    | some u =>
      rcases told hc with ⟨h3, _⟩ | ⟨rfl, _, _⟩
      · have := (isT c h3).1
        rw [e] at this
        cases this
        exact absurd rfl h2
      · rw [at_] at e
        cases e
        exact absurd rfl (h1 _ _)
  have dicts : ∀ {c : Addr} {m : Str → Option Value}, t.heap.Ns c m → (hidT t.heap H).Ns c m := by
    rintro c m ⟨o, es, ep, e, d, r⟩
    exact ⟨o, es, ep, still e (off e (fun vs n z => by rw [d] at z; cases z) (fun z => by rw [d] at z; cases z)), d, r⟩
  have kept : K.In (hidT t.heap H) := fun c o e => still (inK c o e) (by
    cases hc : H c with
    | none => rfl
    | some u =>
      rcases told hc with ⟨h3, _⟩ | ⟨rfl, h2, _⟩
      · have := (isT c h3).2
        rw [e] at this; cases this
      · rw [← hy, e] at h2; cases h2)
  have limits : (hidT t.heap H).NoLimit := by
    obtain ⟨mc, h1, h2⟩ := lim
    exact ⟨mc, dicts h1, h2⟩
  have TB : ∀ p ∈ cs, TabB (hidT t.heap H) mg p.1 p.2 := fun p hp => by
    have hTp := hT p hp
    refine ⟨?_, ?_, ?_⟩
    · obtain ⟨o, us, file, tf, flags, tg, inF, text, tt, e1, r1, r2, r3, r4⟩ := C p hp
      refine ⟨o, us, file, tf, flags, tg, inF, text, tt, still e1 (off e1 (fun vs n z => by rw [r2] at z; cases z) (fun z => ?_)), r1, r2, r3, r4⟩
      rw [r2] at z
      cases z
      simp at r3
    · obtain ⟨bm, ob, b1, b2, b3, b4, b5, b6⟩ := hbm
      refine ⟨bm, ob, b1, b2, fun q => ?_, fun q => ?_, still b3 (off b3 (fun vs n z => by rw [b6] at z; cases z) (fun z => by rw [b6] at z; cases z)), b4, b5, b6⟩
      · obtain ⟨o, es, ep, e, hd, _⟩ := nsM
        rw [q, e] at b3
        cases b3
        rw [hd] at b6; cases b6
      · rw [q, hTp] at b3
        cases b3
        cases b6
    · intro z
      obtain ⟨o, es, ep, e, hd, _⟩ := nsM
      rw [z, hTp] at e
      cases e
      cases hd
  have start0 : Env0 P w K mg (hidT t.heap H) callerA [] t H :=
    { frames := rfl, mod := ⟨kept, dicts nsM, ⟨mb, dicts nsB, boot⟩, limits⟩, bs := fun c o e => of_hidT e, bsz := Nat.le_of_eq (hidT_size _ _), funs := trivial, frf := fun c hc => absurd (show c ∈ ([] : List Addr) from hc) (by simp), hok := okH, bare := .of_eq gens }
  refine codeAny_mono ((G _ kept (dicts nsM) TB).go callerA [] t H [.ref a] [.ref a] _ rfl room start0 (bind t (.ref a)) (.cons rfl .nil) (good H tabs seqH)) fun r z h => ?_
  cases r with
  | error e => exact h.elim
  | ok fl => cases fl with
    | next => exact h.elim
    | brk => exact h.elim
    | cont => exact h.elim
    | ret u =>
      obtain ⟨v, H2, g1, g2, un, ok2, rv, ev⟩ := h
      have ev2 : v = .bl true := ev
      subst ev2
      obtain rfl : u = Value.bool true := rv
      have key : ∀ c o, c ∉ cs.map Prod.snd → t.heap.get? c = some o → z.heap.get? c = some o := fun c o nb e => by
        cases hc : H c with
        | none => exact un.keep c o e hc (fun m => absurd (show c ∈ ([] : List Addr) from m) (by simp)) (by simp)
        | some u =>
          rcases told hc with ⟨h3, _⟩ | ⟨rfl, _, rfl⟩
          · exact absurd h3 nb
          · obtain ⟨e2, _⟩ := ok2 _ _ (un.frzs _ _ _ hc)
            rw [at_] at e
            rw [← Option.some.inj e]
            exact e2
      have grown : ∀ p ∈ cs, ∃ more, z.heap.get? p.2 = some { cls := .none, data := .fields (#[] ++ more) } := fun p hp => by
        obtain ⟨more, e⟩ := un.tbls p.2 #[] (tabs p hp)
        exact ⟨more, ok2 _ _ e⟩
      refine ⟨rfl, ⟨fun c o e => ?_, fun c o e => ?_⟩, g1, g2⟩
      · by_cases hb : c ∈ cs.map Prod.snd
        · obtain ⟨p, hp, rfl⟩ := List.mem_map.mp hb
          obtain ⟨more, hm⟩ := grown p hp
          have e' := hT p hp
          rw [e] at e'
          cases e'
          refine .inr (.inl ⟨Heap.TableAt.isCodeTable (PySem.W.CodeHd.tab (C p hp) (hT p hp)), rfl, #[], more, rfl, hm⟩)
        · exact .inl (key c o hb e)
      · by_cases hb : c ∈ cs.map Prod.snd
        · obtain ⟨p, hp, rfl⟩ := List.mem_map.mp hb
          obtain ⟨more, hm⟩ := grown p hp
          exact ⟨_, hm⟩
        · exact ⟨o, key c o hb e⟩
end Ts
namespace Ts
open PySem PySem.Spec PyProof.Rows L2 L2H LamX
/-! ## defs that make lambdas: their code is known -/
/-- a def that stands at the top under its name, its code at c -/
structure DefAtC (K : PySem.W.Frag) (mg : Str → Option Value) (x : Str) (st : Stmt) (c : Addr) : Prop where
  ex : ∃ f fd, Fun K x x st f fd ∧ mg x = some (.ref f) ∧ fd.code = .ref c
theorem DefAtC.hasG {P : Program} {w : World} {K : PySem.W.Frag} {mg : Str → Option Value} {base : Heap} {x : Str} {st : Stmt} {k : Nat} {c : Addr} {ps : List Str} {sp : Sp} (D : DefAtC K mg x st c)
    (hb : ∀ (kV doc pm : Value) (an : Option Addr) (cdv ct : Value) (us : List Value), us.length = ps.length → bindArgs (PySem.W.fnOf x x (defArgs st) (defBody st) (defScope st) .none kV doc pm an cdv ct) ⟨us, []⟩ = pure (ps.zip us))
    (ok : ∀ f fd, Fun K x x st f fd → fd.code = .ref c → FnG P w K mg base k f fd ps sp) : HasG P w K mg base k x ps sp := by
  obtain ⟨f, fd, F, hm, hc⟩ := D.ex
  exact ⟨f, fd, ok f fd F hc, hm, F.kp, F.binds hb⟩
theorem fun_gc {P : Program} {w : World} {K : PySem.W.Frag} {mg : Str → Option Value} {base : Heap} {x qual : Str} {st : Stmt} {f c : Addr} {fd : FuncData} {N ps : List Str} {k : Nat} {sp : Sp} (F : Fun K x qual st f fd) (hcode : fd.code = .ref c) (S : FnScope N ps (defScope st))
    (ln : ∀ vs H Q E, sp vs H Q E → vs.length = ps.length)
    (hb : ∀ (A : Around) (out : List Env) (s : Shared) (H : Hp) (vs : List V) (Q : VK), A.guards = some [] → Room k (A.deeper (envOfC qual (defScope st) s.heap.objs.size f (.ref c))) → sp vs H Q E0 →
      ∃ t, PSs (cxOf CX0 P w K mg base N qual (defScope st) f (.ref c) A out s H E0).nox (defBody st) t ∧ t { nx := fun _ H' => Q .non H', rt := Q } (start N vs) H) : FnG P w K mg base (k + 1) f fd ps sp := by
  obtain ⟨oc, od, kV, doc, pm, an, cdv, ct, osl, rfl, lk, hcd⟩ := F.ex
  have ec : cdv = .ref c := hcode
  subst ec
  refine ⟨ln, fun A out s H us vs Q hg hr e0 hbd r q => ?_⟩
  have kin : K.In s.heap := e0.mod.kin.keeps fun b o e => (e0.bs b o e).1
  have lim : s.heap.NoLimit := e0.mod.nolimit.keeps fun b o e => (e0.bs b o e).1
  have hvl : vs.length = ps.length := ln _ _ _ _ q
  have kinds : ∀ y ∈ ps.zip us, (defScope st).names.lookup y.1 = some .local ∨ ((defScope st).names.lookup y.1 = some .cell ∧ ((cellsFrom (s.heap.objs.size + 1) (defScope st).names []).lookup y.1).isSome = true) := by
    intro y hy
    have hm : y.1 ∈ ps := (List.of_mem_zip (a := y.1) (b := y.2) hy).1
    rcases S.par _ hm with z | z
    · exact Or.inl z
    · exact Or.inr ⟨z, PySem.W.cellsFrom_some _ _ _ (Or.inl z)⟩
  refine codeAny_call_function hr.depth (kin _ _ lk) rfl S.co S.gen rfl (PySem.W.codeRec_of kin hcd) (hbd _ _ _ _ ?_)
  refine wpAny_newFunctionEnv_cells S.kind kinds fun env he s1 ic => ?_
  subst he
  refine ⟨lim.keeps ic.toInCall.keep, codeAny_func ?_⟩
  obtain ⟨t, ht, hq⟩ := hb A out s H vs Q hg (hr.deeper _) q
  have J := inv_start (CX := CX0) (E := E0) S hr.hd e0 hvl r ic
  refine wpAny_mono (ht.nox.run [] s1 (start N vs) H _ J hq) (fun fl s2 z => ?_) fun er s2 z => z
  cases fl with
  | ret u => obtain ⟨v, σ2, H2, J2, rv, q2⟩ := z; exact ⟨v, H2, J2.os, J2.bare, J2.base, J2.hok, rv, q2⟩
  | next => obtain ⟨σ2, H2, J2, q2⟩ := z; exact ⟨V.non, H2, J2.os, J2.bare, J2.base, J2.hok, rfl, q2⟩
  | brk => obtain ⟨_, _, _, z2⟩ := z; exact z2.elim
  | cont => obtain ⟨_, _, _, z2⟩ := z; exact z2.elim
/-! ## the law, where lambdas are made -/
def spLawT (K : PySem.W.Frag) (T : List (Addr × Str)) : Sp := fun vs H Q _ => ∃ (a : Addr) (ns : List Int), vs = [.ref a] ∧ SqL K H a (ns.map V.int) ∧ ns.length ≤ 63 ∧ (∀ p ∈ T, H p.1 = some (.tbl #[])) ∧ ∀ H', Q (.bl true) H'
end Ts
namespace Ts
open PySem PySem.Spec PyProof.Rows L2 L2H LamX
/-! ## defs that raise -/
section
variable (P : Program) (w : World) (K : PySem.W.Frag) (mg : Str → Option Value) (base : Heap)
structure HasX (k : Nat) (x : Str) (ps : List Str) (sp : Sp) : Prop where
  ex : ∃ f fd, FnOk P w K mg base (L2.CX P w) k f fd ps sp ∧ mg x = some (.ref f) ∧ PySem.W.keepIn K (.ref f) = true ∧ Binds K fd ps []
/-- .. called with names alone, given in another order -/
structure HasQX (k : Nat) (x : Str) (ps ks : List Str) (turned : {α : Type} → List α → List α) (sp : Sp) : Prop where
  ex : ∃ f fd, FnOk P w K mg base (L2.CX P w) k f fd ps sp ∧ mg x = some (.ref f) ∧ PySem.W.keepIn K (.ref f) = true ∧ ∀ (s : Shared) (ws : List Value), ws.length = ks.length → BindsTo s fd ⟨[], ks.zip ws⟩ (ps.zip (turned ws))
  rel : ∀ {vs : List V} {us : List Value}, Vals vs us → Vals (turned vs) (turned us)
end
section
variable {P : Program} {w : World} {K : PySem.W.Frag} {mg : Str → Option Value} {base : Heap}
theorem DefAt.hasX {x : Str} {st : Stmt} {k : Nat} {ps : List Str} {sp : Sp} (D : DefAt K mg x st)
    (hb : ∀ (kV doc pm : Value) (an : Option Addr) (cdv ct : Value) (us : List Value), us.length = ps.length → bindArgs (PySem.W.fnOf x x (defArgs st) (defBody st) (defScope st) .none kV doc pm an cdv ct) ⟨us, []⟩ = pure (ps.zip us))
    (ok : ∀ f fd, Fun K x x st f fd → FnOk P w K mg base (L2.CX P w) k f fd ps sp) : HasX P w K mg base k x ps sp := by
  obtain ⟨f, fd, F, hm⟩ := D.ex
  exact ⟨f, fd, ok f fd F, hm, F.kp, F.binds hb⟩
theorem DefAt.hasQX {x : Str} {st : Stmt} {k : Nat} {ps : List Str} (ks : List Str) (turned : {α : Type} → List α → List α) {sp : Sp} (D : DefAt K mg x st) (rel : ∀ {vs : List V} {us : List Value}, Vals vs us → Vals (turned vs) (turned us))
    (hb : ∀ (kV doc pm : Value) (an : Option Addr) (cdv ct : Value) (ws : List Value), ws.length = ks.length → bindArgs (PySem.W.fnOf x x (defArgs st) (defBody st) (defScope st) .none kV doc pm an cdv ct) ⟨[], ks.zip ws⟩ = pure (ps.zip (turned ws)))
    (ok : ∀ f fd, Fun K x x st f fd → FnOk P w K mg base (L2.CX P w) k f fd ps sp) : HasQX P w K mg base k x ps ks turned sp := by
  obtain ⟨f, fd, F, hm⟩ := D.ex
  refine ⟨⟨f, fd, ok f fd F, hm, F.kp, fun s ws hl => ?_⟩, rel⟩
  obtain ⟨oc, od, kV, doc, pm, an, cdv, ct, osl, rfl, lk, hcd⟩ := F.ex
  exact .of_eq (hb kV doc pm an cdv ct ws hl)
end
/-- f(..), f a def that may raise -/
theorem pe_x {X : Cx} {k : Nat} {x : Str} {ps : List Str} {sp : Sp} {W : WX} {p pos : Pos} {e : Expr} {es : List Expr} {t : TA} (h : HasX X.prog X.w X.K X.mg X.base k x ps sp) (hr : Room k X.A) (tk : Takes X W) (ha : PA X (e :: es) t) (hg : Gl X x := by rfl)
    (hdb : (x == ("__debug__" : Str)) = false := by decide) (he : starEach (e :: es) X.env = (false, eval e X.env) :: starEach es X.env := by rfl) (hpl : (backTo pos (starEach es X.env)).any (·.1) = false := by rfl) :
    PE X (.Call (.Name x p) (e :: es) [] pos) (tCallS sp (WE W) t) := by
  obtain ⟨f, fd, F, hm, hk, hb⟩ := h.ex
  exact pe_callS F hr hg hm hk hb (fun σ => passAt tk σ) ha hdb he hpl
def tCallQX (sp : Sp) (m : Nat) (turned : List V → List V) (W : WX) (tk : TA) : TE := fun σ H Q => tk σ H fun zs H2 => zs.length = m ∧ sp (turned zs) H2 Q (WE W σ)
theorem pe_hqx {X : Cx} {k : Nat} {x : Str} {ps ks : List Str} {turned : {α : Type} → List α → List α} {sp : Sp} {W : WX} {p pos : Pos} {kws : List Keyword} {tk : TA} (h : HasQX X.prog X.w X.K X.mg X.base k x ps ks turned sp) (hr : Room k X.A) (tkW : Takes X W) (hkw : PK X kws tk) (hg : Gl X x := by rfl)
    (hdb : (x == ("__debug__" : Str)) = false := by decide) (hall : (backToKw pos (keywordEach kws X.env)).all (·.1.isSome) = true := by rfl) (hks : (backToKw pos (keywordEach kws X.env)).filterMap (·.1) = ks := by rfl)
    (hpl : ((backTo pos (starEach [] X.env)).any (·.1) || (backToKw pos (keywordEach kws X.env)).any (·.1.isNone)) = false := by rfl) :
    PE X (.Call (.Name x p) [] kws pos) (tCallQX sp ks.length turned W tk) := by
  obtain ⟨f, fd, F, hm, hk, hb⟩ := h.ex
  refine ⟨fun pins s σ H Q I q0 => ?_⟩
  refine wpAny_Call_Name_kw (ld_glob I hg hm ?_ hdb)
  refine PySem.W.callWith_KW0 (h₀ := X.base) I.ok.mod.kin hk hall ?_ hpl
  refine thn (hkw.run pos pins s σ H _ I q0) fun ws s2 ⟨zs, H2, I2, rz, l2, q2⟩ => ⟨I2.kIn, ?_⟩
  rw [hks]
  have lw : ws.length = ks.length := by rw [← rz.length]; exact l2
  refine wpAny_call (codeAny_mono (F.run X.A X.stack s2 H2 ⟨[], ks.zip ws⟩ (turned ws) (turned zs) Q (WE W σ) hr I2.env0 (hb s2 ws lw) (h.rel rz) q2) fun r s' hq => ?_)
  cases r with
  | error er => exact passAt tkW σ pins H2 s2 er s' I2 hq
  | ok fl => cases fl with
    | ret u => exact I2.after hq
    | next => exact hq.elim
    | brk => exact hq.elim
    | cont => exact hq.elim
/-! ## values of any kind -/
/-- what a number is asked: o is the number, none what is no integer -/
def KindV (K : PySem.W.Frag) (H : Hp) (v : V) : Option Int → Prop
  | some i => v = .int i
  | none => ∃ T, T ∈ ["bool", "str", "NoneType", "list", "tuple", "dict"] ∧ TyX K H v (.type T)
theorem TyX.mono {K : PySem.W.Frag} {H H' : Hp} {x : V} {t : Value} (h : TyX K H x t) (s : Same H H') : TyX K H' x t := by
  cases h with
  | base b => exact .base (match b with
    | .non => .non
    | .bl x => .bl x
    | .int i => .int i
    | .str x => .str x
    | .flt x => .flt x
    | .lst e => .lst (s _ _ e)
    | .frz e => .frz (s _ _ e)
    | .tup e => .tup (s _ _ e)
    | .dK e => .dK (s _ _ e)
    | .dT e => .dT (s _ _ e)
    | .ins e a b c d f => .ins (s _ _ e) a b c d f)
  | byt b => exact .byt b
  | set e => exact .set (s _ _ e)
  | kList e c => exact .kList e c
  | kTuple e c => exact .kTuple e c
  | kDict e c => exact .kDict e c
  | fTuple e => exact .fTuple (s _ _ e)
  | fDict e => exact .fDict (s _ _ e)
theorem KindV.mono {K : PySem.W.Frag} {H H' : Hp} {v : V} {o : Option Int} (h : KindV K H v o) (s : Same H H') : KindV K H' v o := by
  cases o with
  | some i => exact h
  | none => obtain ⟨T, h1, h2⟩ := h; exact ⟨T, h1, TyX.mono h2 s⟩
def inRg (o : Option Int) (lo hi : Int) : Bool := match o with
  | some i => decide (lo ≤ i ∧ i ≤ hi)
  | none => false
def spIsNumberFromA (K : PySem.W.Frag) : Sp := fun vs H Q _ => ∃ (v : V) (lo : Int) (o : Option Int), vs = [v, .int lo] ∧ KindV K H v o ∧ Q (.bl (match o with | some i => decide (lo ≤ i) | none => false)) H
def spIsNumberA (K : PySem.W.Frag) : Sp := fun vs H Q _ => ∃ (v : V) (lo hi : Int) (o : Option Int), vs = [v, .int lo, .int hi] ∧ KindV K H v o ∧ Q (.bl (inRg o lo hi)) H
/-- an error of the class at C that keeps v under fld -/
def Raise1 (C : Addr) (fld : Str) (v : V) (H : Hp) (E : XK) : Prop := ∀ (H' : Hp) (d : Addr), Same H H' → H' d = none → E (.ref C) (some d) (upd H' d (.xd [(fld, v)]))
/-- a thing that may be a log: none what is no tuple, else what its elements are -/
def ThingAt (K : PySem.W.Frag) (H : Hp) (v : V) : Option (List (Option Int)) → Prop
  | some os => ∃ (p : Addr) (xs : List V), v = .ref p ∧ H p = some (.tup xs) ∧ xs.length = os.length ∧ ∀ (i : Nat) (x : V) (o : Option Int), xs[i]? = some x → os[i]? = some o → KindV K H x o
  | none => ∃ T, T ∈ ["int", "bool", "str", "NoneType", "list", "dict"] ∧ TyX K H v (.type T)
theorem ThingAt.mono {K : PySem.W.Frag} {H H' : Hp} {v : V} {t : Option (List (Option Int))} (h : ThingAt K H v t) (s : Same H H') : ThingAt K H' v t := by
  cases t with
  | none => obtain ⟨T, h1, h2⟩ := h; exact ⟨T, h1, TyX.mono h2 s⟩
  | some os => obtain ⟨p, xs, h1, h2, h3, h4⟩ := h; exact ⟨p, xs, h1, s _ _ h2, h3, fun i x o a b => (h4 i x o a b).mono s⟩
end Ts
namespace Ts
open PySem PySem.Spec PyProof.Rows L2 L2H LamX
/-! ## a block whose first statement always leaves -/
theorem pss_stop {X : Cx} {st : Stmt} {rest : List Stmt} {t : TS} (h1 : PS X st t) : PSs X (st :: rest) (fun D σ H => t { D with nx := fun _ _ => False } σ H) := by
  refine ⟨fun pins s σ H D I h => ?_⟩
  refine wpAny_execs_cons (thn (h1.run pins s σ H { D with nx := fun _ _ => False } I h) fun f s1 q => ?_)
  cases f with
  | next =>
    obtain ⟨σ', H', I', q⟩ := q
    exact q.elim
  | ret v => exact q
  | brk => exact q
  | cont => exact q
/-! ## what stays where draws are made and lambdas -/
/-- all but what stands at b and the tables of code stays -/
def Ext2 (b : Addr) (H H' : Hp) : Prop := ∀ a o, a ≠ b → (∀ ps, o ≠ .tbl ps) → H a = some o → H' a = some o
theorem Ext2.refl {b : Addr} {H : Hp} : Ext2 b H H := fun _ _ _ _ h => h
theorem Ext2.trans {b : Addr} {H H1 H2 : Hp} (x : Ext2 b H H1) (y : Ext2 b H1 H2) : Ext2 b H H2 := fun a o n t h => y a o n t (x a o n t h)
theorem Ext2.but {b : Addr} {H H' : Hp} (x : But b H H') : Ext2 b H H' := fun a o n _ h => x a o n h
theorem Ext2.same {b : Addr} {H H' : Hp} (x : Same H H') : Ext2 b H H' := fun a o _ _ h => x a o h
theorem Ext2.ext {b : Addr} {H H' : Hp} (x : ExtN H H') : Ext2 b H H' := fun a o _ t h => x a o h t
def isTbl : HO → Bool
  | .tbl _ => true
  | _ => false
theorem isTbl_no {o : HO} (h : isTbl o = false) : ∀ ps, o ≠ .tbl ps := fun ps z => by rw [z] at h; cases h
theorem isTbl_of {o : HO} (h : ∀ ps, o ≠ .tbl ps) : isTbl o = false := by
  cases o <;> first | rfl | exact absurd rfl (h _)
/-- the heap without what stands at b and without tables -/
def hid2 (b : Addr) (H : Hp) : Hp := fun a => if a = b then none else match H a with
  | some o => if isTbl o = true then none else some o
  | none => none
theorem hid2_some {b a : Addr} {H : Hp} {o : HO} (h : hid2 b H a = some o) : a ≠ b ∧ (∀ ps, o ≠ .tbl ps) ∧ H a = some o := by
  unfold hid2 at h
  split at h
  · cases h
  · split at h
    · rename_i n _ o' e
      split at h
      · cases h
      · rename_i c
        cases h
        exact ⟨n, isTbl_no (by simpa using c), e⟩
    · cases h
theorem hid2_of {b a : Addr} {H : Hp} {o : HO} (n : a ≠ b) (t : ∀ ps, o ≠ .tbl ps) (h : H a = some o) : hid2 b H a = some o := by
  unfold hid2
  rw [if_neg n, h]
  show (if isTbl o = true then none else some o) = some o
  rw [isTbl_of t]; rfl
theorem hid2_sub {b : Addr} {H : Hp} : Same (hid2 b H) H := fun a o h => (hid2_some h).2.2
theorem Ext2.hid {b : Addr} {H H' : Hp} (x : Ext2 b H H') : Same (hid2 b H) (hid2 b H') := fun a o h => by
  obtain ⟨n, t, e⟩ := hid2_some h
  exact hid2_of n t (x a o n t e)
theorem hid2_but {b : Addr} {H H' : Hp} (x : But b H H') : Same (hid2 b H) (hid2 b H') := (Ext2.but x).hid
theorem hid2_ext {b : Addr} {H H' : Hp} (x : ExtN H H') : Same (hid2 b H) (hid2 b H') := (Ext2.ext x).hid
theorem Bas.ext {b : Addr} {H H' : Hp} (h : Bas H b) (x : ExtN H H') : Bas H' b := by
  obtain ⟨u, v, w, e⟩ := h
  exact ⟨u, v, w, x _ _ e fun ps z => nomatch z⟩
theorem Bas.ne_tbl {b P : Addr} {H : Hp} {ps : Array Value} (h : Bas H b) (e : H P = some (.tbl ps)) : P ≠ b := fun z => by
  obtain ⟨u, v, w, e2⟩ := h
  rw [z, e2] at e; cases e
theorem tabs_but {T : List (Addr × Str)} {b : Addr} {H H' : Hp} (t : Tabs T H) (hB : Bas H b) (x : But b H H') : Tabs T H' := fun p hp => by
  obtain ⟨ps, h1, h2, h3⟩ := t p hp
  refine ⟨ps, x _ _ (hB.ne_tbl h1) h1, h2, fun pos cv hc => ?_⟩
  obtain ⟨c, e1, e2⟩ := h3 pos cv hc
  refine ⟨c, e1, x _ _ (fun z => ?_) e2⟩
  obtain ⟨u, v, w, e3⟩ := hB
  rw [z, e3] at e2
  unfold CodeO at e2
  cases e2
theorem tabs_lst {T : List (Addr × Str)} {a : Addr} {H H' : Hp} {xs : List V} (t : Tabs T H) (hB : H a = some (.lst xs)) (x : But a H H') : Tabs T H' := fun p hp => by
  obtain ⟨ps, h1, h2, h3⟩ := t p hp
  refine ⟨ps, x _ _ (fun z => by rw [z, hB] at h1; cases h1) h1, h2, fun pos cv hc => ?_⟩
  obtain ⟨c, e1, e2⟩ := h3 pos cv hc
  refine ⟨c, e1, x _ _ (fun z => ?_) e2⟩
  rw [z, hB] at e2
  unfold CodeO at e2
  cases e2
/-! ## values of any kind: what they are by their data -/
def kindD : PyData → Option Int
  | .int i => some i
  | _ => none
theorem SqT.ty {K : PySem.W.Frag} {H : Hp} {a : Addr} {xs : List V} (h : SqT K H a xs) : TyX K H (.ref a) (.type "tuple") := by
  rcases h with (h | ⟨o, h⟩) | ⟨o, its, n, h1, h2, _⟩
  · exact .base (.tup h)
  · exact .fTuple h
  · exact .kTuple h1 h2
theorem SqL.ty {K : PySem.W.Frag} {H : Hp} {a : Addr} {xs : List V} (h : SqL K H a xs) : TyX K H (.ref a) (.type "list") := by
  rcases h with (h | ⟨o, h⟩) | ⟨o, its, n, h1, h2, _⟩
  · exact .base (.lst h)
  · exact .base (.frz h)
  · exact .kList h1 h2
theorem dp_kind {K : PySem.W.Frag} {H : Hp} {v : V} {d : PyData} (h : Dp K H v d) : KindV K H v (kindD d) := by
  cases h with
  | non => exact ⟨"NoneType", by decide, .base .non⟩
  | bl b => exact ⟨"bool", by decide, .base (.bl b)⟩
  | int i => rfl
  | str x => exact ⟨"str", by decide, .base (.str x)⟩
  | lst h a => exact ⟨"list", by decide, SqL.ty h⟩
  | tup h a => exact ⟨"tuple", by decide, SqT.ty h⟩
/-- a thing: a tuple of data, or a value that is no tuple -/
def ThingP (K : PySem.W.Frag) (H : Hp) (v : V) : Option (List PyData) → Prop
  | some ds => ∃ (p : Addr) (xs : List V), v = .ref p ∧ H p = some (.tup xs) ∧ DpAll K H xs ds ∧ ds.length ≤ 3000 ∧ SeqAt.shaped (.tuple ds) = true
  | none => ∃ T, T ∈ ["int", "bool", "str", "NoneType", "list", "dict"] ∧ TyX K H v (.type T)
theorem ThingP.mono {K : PySem.W.Frag} {H H' : Hp} {v : V} {t : Option (List PyData)} (h : ThingP K H v t) (s : Same H H') : ThingP K H' v t := by
  cases t with
  | none => obtain ⟨T, h1, h2⟩ := h; exact ⟨T, h1, TyX.mono h2 s⟩
  | some os => obtain ⟨p, xs, h1, h2, h3, h4⟩ := h; exact ⟨p, xs, h1, s _ _ h2, h3.mono s, h4⟩
def kinds (t : Option (List PyData)) : Option (List (Option Int)) := t.map fun ds => ds.map kindD
theorem ThingP.at {K : PySem.W.Frag} {H : Hp} {v : V} {t : Option (List PyData)} (h : ThingP K H v t) : ThingAt K H v (kinds t) := by
  cases t with
  | none => exact h
  | some ds =>
    obtain ⟨p, xs, h1, h2, h3, h4⟩ := h
    refine ⟨p, xs, h1, h2, by rw [List.length_map]; exact h3.length, fun i x o e1 e2 => ?_⟩
    obtain ⟨d, hd, hv⟩ := h3.get e1
    rw [List.getElem?_map, hd] at e2
    cases Option.some.inj e2
    exact dp_kind hv
end Ts
namespace Ts
open PySem PySem.Spec PyProof.Rows L2
/-! ## a tuple turned about: t[::-1] -/
/-- a block within a block -/
theorem relabel_known {f : Str × NameKind → Str × NameKind} (hf : ∀ p, (f p).1 = p.1 ∧ ((f p).2 = p.2 ∨ (p.2 = .free ∧ (f p).2 = .cell))) {y : Str} : ∀ {names : List (Str × NameKind)}, (names.lookup y = some .cell ∨ names.lookup y = some .free) → ((names.map f).lookup y = some .cell ∨ (names.map f).lookup y = some .free)
  | [], h => by rcases h with h | h <;> cases h
  | p :: r, h => by
    obtain ⟨h1, h2⟩ := hf p
    have ih := @relabel_known f hf y r
    have e1 : (p :: r).lookup y = if y == p.1 then some p.2 else r.lookup y := by
      obtain ⟨n, k⟩ := p
      rw [List.lookup_cons]; cases y == n <;> rfl
    have e2 : ((p :: r).map f).lookup y = if y == p.1 then some (f p).2 else (r.map f).lookup y := by
      rw [List.map_cons]
      generalize f p = q at h1 h2 ⊢
      obtain ⟨n2, k2⟩ := q
      simp only at h1 h2 ⊢
      rw [List.lookup_cons, h1]; cases y == p.1 <;> rfl
    rw [e1] at h
    rw [e2]
    cases hx : y == p.1 with
    | true =>
      rw [hx] at h
      simp only [if_true] at h ⊢
      rcases h2 with h2 | ⟨_, h2⟩
      · rw [h2]; exact h
      · rw [h2]; exact .inl rfl
    | false =>
      rw [hx] at h
      simp only [Bool.false_eq_true, if_false] at h ⊢
      exact ih h
theorem blkOk_in {X : Cx} {s : Shared} {H : Hp} {scope1 scope : Scope} {cl : List (Str × Addr)} {C : Addr} {env : Env} {fp : List Addr} {N : List Str} {own : List (Str × Nat)} (hN : X.N = N) (h : blkC N scope1 scope own = true) :
    BlkOk (X.blk s H scope1 (compEnvC scope1 cl C env) fp).N (X.blk s H scope1 (compEnvC scope1 cl C env) fp).env.scope scope own := by
  subst hN
  have b := blkOk_by h
  exact ⟨b.kind, b.uniq, b.ix, fun y hy e => by
    refine relabel_known (f := fun p => match p with | (n, k) => if (k == NameKind.free && env.scope.kind == .function && env.kindOf n == some .cell) then (n, NameKind.cell) else (n, k)) (fun p => ?_) (b.free y hy e)
    obtain ⟨n, k⟩ := p
    show ((if (k == NameKind.free && env.scope.kind == .function && env.kindOf n == some .cell) = true then (n, NameKind.cell) else (n, k)).1 = n) ∧ ((if (k == NameKind.free && env.scope.kind == .function && env.kindOf n == some .cell) = true then (n, NameKind.cell) else (n, k)).2 = k ∨ (k = .free ∧ (if (k == NameKind.free && env.scope.kind == .function && env.kindOf n == some .cell) = true then (n, NameKind.cell) else (n, k)).2 = .cell))
    by_cases c : (k == NameKind.free && env.scope.kind == .function && env.kindOf n == some .cell) = true
    · rw [if_pos c]
      refine ⟨rfl, .inr ⟨?_, rfl⟩⟩
      simp only [Bool.and_eq_true] at c
      exact eq_of_beq c.1.1
    · rw [if_neg c]
      exact ⟨rfl, .inl rfl⟩, b.own⟩
end Ts
namespace PySem
open Sem (wp)
namespace TsEnum
set_option maxHeartbeats 1000000 in
theorem enum_new1 {v : Value} {o : Obj} {H : Heap → Prop} (B : Begins v o H) :
    Meets (Builtin.«enumerate.__new__» ⟨[.type "enumerate", v], []⟩) (fun _ R s => H s.heap ∧
      R (.ok (.ret (.ref (s.heap.push o).objs.size))) { s with heap := (s.heap.push o).push { cls := .type "enumerate", data := .fields #[.none, .bool false, .ref s.heap.objs.size, rawInt 0, .none, .none] } }) :=
  .of_wp fun prog w A R s h => by
    obtain ⟨hp, g, d, tk, os⟩ := s; obtain ⟨h1, h⟩ := h
    have es := sub_enumerate
    have q1 : ∀ {A2 : Around} {E : Value → Shared → Prop} {Q : Value → Shared → Prop}, Q (.ref hp.objs.size) ⟨hp.push o, g, d, tk, os⟩ → wpAny (model prog w) A2 (pyIter v) Q E ⟨hp, g, d, tk, os⟩ := fun q => B.iter prog w _ _ ⟨hp, g, d, tk, os⟩ _ h1 q
    wp_walk using q1
    refine wpAny_stack_any fun st => wpAny_pure ?_
    split
    · rename_i c _ _ _ _ _
      cases (c == Value.type "enumerate")
      · (wp_walk using q1); exact ⟨_, rfl, h⟩
      · (wp_walk using q1); exact ⟨_, rfl, h⟩
    · (wp_walk using q1); exact ⟨_, rfl, h⟩
section
variable {prog : Program} {w : World} {A : Around} {E : Value → Shared → Prop} {s : Shared}
theorem enum_one {v : Value} {o : Obj} {H : Heap → Prop} {Q : Value → Shared → Prop} (B : Begins v o H) (h1 : H s.heap)
    (h : ∀ h2, IsEnum h2 (s.heap.objs.size + 1) s.heap.objs.size 0 .none → h2.get? s.heap.objs.size = some o → h2.objs.size = s.heap.objs.size + 2 → (∀ b o, s.heap.get? b = some o → h2.get? b = some o) → Q (.ref (s.heap.objs.size + 1)) { s with heap := h2 }) :
    wpAny (model prog w) A (call (.type "enumerate") [v]) Q E s := by
  refine callType_new F.called_enumerate (by decide) (F.typeCall_enumerate_1 _) (F.newCall_enumerate_1 _) (fun obj => F.args_object_init_2 obj _) F.entry_enumerate_new (enum_new1 B) ⟨h1, ?_⟩
  have hz : (s.heap.push o).objs.size = s.heap.objs.size + 1 := Heap.size_push ..
  show _ ∧ _
  rw [hz]
  have he : IsEnum ((s.heap.push o).push { cls := .type "enumerate", data := .fields #[.none, .bool false, .ref s.heap.objs.size, rawInt 0, .none, .none] }) (s.heap.objs.size + 1) s.heap.objs.size 0 .none := by
    have z := Heap.get?_push_size (s.heap.push o) (o := { cls := .type "enumerate", data := .fields #[.none, .bool false, .ref s.heap.objs.size, rawInt 0, .none, .none] }) rfl
    rw [hz] at z; exact z
  exact ⟨⟨_, he, rfl⟩, h _ he (Heap.get?_push_of_some _ (Heap.get?_push_size _ B.free)) (by rw [Heap.size_push, hz]) fun b o x => Heap.get?_push_of_some _ (Heap.get?_push_of_some _ x)⟩
end
end TsEnum
end PySem
namespace Ts
open PySem PySem.Spec PyProof.Rows L2
/-- the tuple at a, each item in a new pair with its number, from c on -/
def IteT (K : PySem.W.Frag) (a : Addr) (c : Int) : It :=
  ⟨fun i H => ∃ (xs : List V) (x : V), SqT K H a xs ∧ xs[i]? = some x, fun i H v H2 => ∃ T x, v = .ref T ∧ H T = none ∧ H2 = upd H T (.tup [.int (c + (i : Nat)), x]) ∧ ∀ xs, SqT K H a xs → xs[i]? = some x, fun i H => ∃ xs : List V, SqT K H a xs ∧ xs.length ≤ i⟩
theorem turn_enumT {P : Program} {w : World} {K : PySem.W.Frag} {elts : List Expr} {kk : Nat} {tpos : Pos} (a e it : Addr) (c : Int) :
    Turn P w K (.Tuple elts kk tpos) (IteT K a c) [e, it] e (fun i h => (∃ old, IsEnum h e it (c + ((i : Nat) : Int)) old) ∧ h.IsTupleIter it a i ∧ e ≠ it) where
  mem := by simp
  obj := fun i h st b hb => by
    obtain ⟨⟨old, he⟩, ⟨o, ho, hc, hd⟩, _⟩ := st
    have z : b = e ∨ b = it := by simpa using hb
    rcases z with z | z
    · rw [z]; exact ⟨_, he, fun v q => nomatch q⟩
    · rw [z]; exact ⟨o, ho, fun v q => by rw [hd] at q; cases q⟩
  keep := fun i h h2 st k => let ⟨⟨old, he⟩, hi, hne⟩ := st; ⟨⟨old, k e (by simp) _ he⟩, hi.at fun o q => k it (by simp) o q, hne⟩
  item := by
    intro X hP hw hK hc i pins s σ H E I hf st hg
    subst hP hw hK
    obtain ⟨⟨old, he⟩, hit, hne⟩ := st
    obtain ⟨xs, x, hq, hx⟩ := hg
    obtain ⟨its, rv, p, hz⟩ := I.tuple hq
    have p2 : s.heap.IsTuple a its.toArray := p
    obtain ⟨u, hu, ru⟩ := rv.get hx
    have hel : e < s.heap.objs.size := Heap.lt_size he
    have hil : it < s.heap.objs.size := by obtain ⟨_, q, _⟩ := hit; exact Heap.lt_size q
    have nae : a ≠ it := fun z => by
      obtain ⟨o1, e1, c1, _⟩ := hit
      obtain ⟨o2, e2, c2, _⟩ := p2
      rw [z, e1] at e2
      cases e2
      rw [c1] at c2
      exact absurd (Value.type.inj c2) (by decide)
    have hae : e ∉ [it, a] := fun z => by
      have z : e = it ∨ e = a := by simpa using z
      rcases z with z | z
      · exact hne z
      · obtain ⟨o2, e2, c2, _⟩ := p2
        rw [← z, he] at e2
        cases e2
        exact absurd (Value.type.inj c2) (by decide)
    have hlt : i < its.toArray.size := by
      have := (List.getElem?_eq_some_iff.mp hu).1
      simpa using this
    refine wpAny_pyNext_enum_itemC (Draws.tuple (prog := X.prog) (w := X.w) (A := X.A.in1) (show X.A.in1.handled = none from I.ok.hd hc) it a nae its.toArray) he ⟨hit, p2⟩ hlt hne hae fun y h2 tk hy ho st2 hT hsz hk => ?_
    have ey : y = u := by
      have hy2 : its.toArray[i]? = some y := hy
      rw [List.getElem?_toArray, hu] at hy2
      exact (Option.some.inj hy2).symm
    subst ey
    refine ⟨_, rfl, wpAny_letOwnedTupleGo_enum (s := { s with heap := h2, toks := tk + 1 }) ho fun h3 he3 sb => ?_⟩
    have hT2 : h3.get? s.heap.objs.size = some { cls := .type "tuple", data := .seq #[.int (c + (i : Int)) tk, y] } := (sb.2 _ (Nat.ne_of_gt hel)).trans hT
    have new : ObjOk X.prog X.w (upd H s.heap.objs.size (.tup [.int (c + (i : Nat)), x])) h3 s.heap.objs.size (.tup [.int (c + (i : Nat)), x]) :=
      ⟨by show 2 ≤ sizeLine; decide, [.int (c + (i : Int)) tk, y], .cons ⟨_, rfl⟩ (.cons ru .nil), ⟨_, hT2, rfl, _, rfl⟩⟩
    have I1 : Inv X pins σ (upd H s.heap.objs.size (.tup [.int (c + (i : Nat)), x])) { s with heap := h3, toks := tk + 1 } :=
      I.turnedNew (ch := [e, it]) (fun b ob hb q => (sb.2 b (fun z => hb (by simp [z]))).trans (hk b ob (fun z => hb (by simp [z])) (fun z => hb (by simp [z])) q)) hf (Nat.le_refl _) new
    refine ⟨.ref s.heap.objs.size, _, I1, rfl, ⟨_, x, rfl, I.hok.fresh (Nat.le_refl _), rfl, fun ys hy => by rw [I.tuple_inj hy hq]; exact hx⟩, ⟨⟨y, ?_⟩, st2.1.at fun o q => (sb.2 it (Ne.symm hne)).trans q, hne⟩, fun b hb => ?_⟩
    · have e1 : c + ((i + 1 : Nat) : Int) = c + (i : Int) + 1 := by omega
      rw [e1]; exact he3
    · have lt : b < s.heap.objs.size := by
        have z : b = e ∨ b = it := by simpa using hb
        rcases z with z | z
        · rw [z]; exact hel
        · rw [z]; exact hil
      rw [upd_ne (Nat.ne_of_lt lt)]
      exact (hf b hb).1
  done := by
    intro X hP hw hK hc i pins s σ H E I hf st hg
    subst hP hw hK
    obtain ⟨⟨old, he⟩, hit, hne⟩ := st
    obtain ⟨xs, hq, hx⟩ := hg
    obtain ⟨its, rv, p, hz⟩ := I.tuple hq
    have p2 : s.heap.IsTuple a its.toArray := p
    obtain ⟨f0, f1, f2, f3, f4, f5⟩ := hf it (by simp)
    have hl := rv.length
    have hT : s.TypeIs (.ref e) "enumerate" := ⟨_, he, rfl⟩
    unfold pyNext
    refine wpAny_bind (wpAny_attempt (wpAny_callSpecial?_slot (name := Str.ofString "__next__") hT F.slot_enumerate_next (wpAny_call_entry F.slot_enumerate_next hT F.entry_enumerate_next ?_ (F.args_enumerate_next_1 _))))
    show wpAny _ _ (field (.ref e) 2 >>= _) _ _ _
    refine wpAny_bind (wpAny_field he rfl (x := .ref it) rfl ?_)
    refine wpAny_bind (wpAny_nextOf_tuple_end (I.ok.hd hc) hit p2 (by simp; omega) fun h2 x eb hx2 => ?_)
    obtain ⟨o, ho, hcl⟩ := hx2
    refine wpAny_bind (wpAny_isInstance (T := "StopIteration") (b := true) ⟨o, ho, hcl⟩ isSubtype_stop ?_)
    exact wpAny_pure ⟨rfl, I.turned (t' := s.toks) (fun b o hb q => eb b o hb q) f0 f1 f3 f4 f5⟩
  self := fun A i s Q E st h => let ⟨⟨_, he⟩, _⟩ := st; wpAny_pyIter_enum he h
def iEnumT (K : PySem.W.Frag) (ta : TA) : TI := fun σ H R => ta σ H fun vs H1 => ∃ a xs, vs = [.ref a] ∧ SqT K H1 a xs ∧ R (IteT K a 0) H1
section
variable {X : Cx}
theorem pi_enumT {e : Expr} {ta : TA} {p pos tpos : Pos} {elts : List Expr} {kk : Nat} (hg : Gl X "enumerate") (hm : X.mg "enumerate" = none) (ha : PA X [e] ta) (hs : starEach [e] X.env = [(false, eval e X.env)] := by rfl) :
    PI X (.Tuple elts kk tpos) (.Call (.Name "enumerate" p) [e] [] pos) (iEnumT X.K ta) := by
  refine ⟨fun pins s σ H R I h => ?_⟩
  refine Call_ (ld_blt I hg hm boot_enumerate (PyProof.Rows.callWith_type1 (thn (ha.run pos pins s σ H _ I h) fun us s1 ⟨vs, H1, I1, r1, q1⟩ => ?_) hs rfl))
  obtain ⟨a, xs, ex, hq, q⟩ := q1
  subst ex
  rw [Vals.ref1 r1]
  obtain ⟨its, rv, p2, hz⟩ := I1.tuple hq
  refine TsEnum.enum_one (begins_tuple a its.toArray) p2 fun h2 he hit hsz hk => wpAny_pyIter_enum he ?_
  have I2 : Inv X pins σ H1 { s1 with heap := h2 } := I1.kept (t' := s1.toks) hk
  refine ⟨s1.heap.objs.size + 1, [s1.heap.objs.size + 1, s1.heap.objs.size], _, _, H1, rfl, I2, turn_enumT a (s1.heap.objs.size + 1) s1.heap.objs.size 0, ⟨⟨.none, by simpa using he⟩, ⟨_, hit, rfl, rfl⟩, Nat.succ_ne_self _⟩, fun b hb => ?_, q⟩
  have z : b = s1.heap.objs.size + 1 ∨ b = s1.heap.objs.size := by simpa using hb
  have le : s1.heap.objs.size ≤ b := by
    rcases z with z | z
    · rw [z]; exact Nat.le_add_right _ _
    · rw [z]; exact Nat.le_refl _
  exact I1.fpOk le (I1.hok.fresh le)
end
/-- a tuple walked with numbers -/
theorem walk_enumT {K : PySem.W.Frag} {a : Addr} {xs : List V} {c : Int} {g : TG} {tb : TS} {D : Ends} {σ : L2.St} {H : Hp} (Pv : Nat → L2.St → Hp → Prop) (h0 : Pv 0 σ H) (hl : ∀ i σ H, i ≤ xs.length → Pv i σ H → SqT K H a xs)
    (hs : ∀ i x T σ H, xs[i]? = some x → Pv i σ H → H T = none → g (.ref T) σ (upd H T (.tup [.int (c + (i : Nat)), x])) fun σ2 H2 => tb { D with nx := Pv (i + 1), ct := Pv (i + 1), bk := D.nx } σ2 H2) (hd : ∀ σ H, Pv xs.length σ H → D.nx σ H) :
    ∃ W : Nat → Nat → L2.St → Hp → Prop, (∃ m, W 0 m σ H) ∧ ∀ i m σ H, W i m σ H → ((IteT K a c).stop i H ∧ D.nx σ H) ∨ ((IteT K a c).go i H ∧ ∃ N : L2.St → Hp → Prop, (∀ σ' H', N σ' H' → ∃ m', m' < m ∧ W (i + 1) m' σ' H') ∧ ∀ x H', (IteT K a c).yld i H x H' → g x σ H' fun σ2 H2 => tb { D with nx := N, ct := N, bk := D.nx } σ2 H2) := by
  refine ⟨fun i m σ H => m = xs.length - i ∧ i ≤ xs.length ∧ Pv i σ H, ⟨_, rfl, Nat.zero_le _, h0⟩, ?_⟩
  rintro i m σ H ⟨rfl, le, z⟩
  have q := hl i σ H le z
  rcases Nat.lt_or_eq_of_le le with lt | rfl
  · have e : xs[i]? = some xs[i] := by simp [lt]
    refine .inr ⟨⟨xs, xs[i], q, e⟩, Pv (i + 1), fun σ2 H2 z2 => ⟨_, by omega, rfl, lt, z2⟩, ?_⟩
    rintro v _ ⟨T, x, rfl, hT, rfl, hx⟩
    exact hs i x T σ H (hx xs q) z hT
  · exact .inl ⟨⟨xs, q, Nat.le_refl _⟩, hd σ H z⟩
end Ts
namespace Ts
open PySem PySem.Spec PyProof.Rows L2
/-! ## logs -/
def IsLog (ls : List Nat) : Prop := ∀ x ∈ ls, x ≤ 1
abbrev logV (ls : List Nat) : List V := ls.map fun x : Nat => V.int ((x : Nat) : Int)
/-- the bounds as they are after t ticks: a pair of tops and bottoms -/
structure Edge where
  a : Nat
  b : Nat
  c : Nat
  d : Nat
def Edge.step (E : Edge) (h t : Nat) : Edge :=
  ⟨if E.a * t < (h - 1) * E.b then h - 1 else E.a, if E.a * t < (h - 1) * E.b then t else E.b, if (h + 1) * E.d < E.c * t then h + 1 else E.c, if (h + 1) * E.d < E.c * t then t else E.d⟩
/-! ## what is asked -/
abbrev pairI (a b : Int) : PyData := .tuple [.int a, .int b]
def Edge.fits (E : Edge) : Prop := E.a * E.d < E.c * E.b
instance (E : Edge) : Decidable E.fits := by unfold Edge.fits; exact inferInstance
def Edge.has (E : Edge) (e p : Nat) : Prop := E.a * p < e * E.b ∧ e * E.d < E.c * p
instance (E : Edge) (e p : Nat) : Decidable (E.has e p) := by unfold Edge.has; exact inferInstance
/-! ## data of tuples alone -/
inductive TupD : PyData → Prop
  | int (i : Int) : TupD (.int i)
  | non : TupD .none
  | tup {ds : List PyData} (h : ∀ d ∈ ds, TupD d) : TupD (.tuple ds)
theorem DpAll.imp {K : PySem.W.Frag} {H H' : Hp} : ∀ {vs : List V} {ds : List PyData}, DpAll K H vs ds → (∀ d ∈ ds, ∀ v, Dp K H v d → Dp K H' v d) → DpAll K H' vs ds
  | _, _, .nil, _ => .nil
  | _, _, .cons h t, g => .cons (g _ List.mem_cons_self _ h) (DpAll.imp t fun d hd => g d (List.mem_cons_of_mem _ hd))
theorem dp_hideT {K : PySem.W.Frag} {H : Hp} {b : Addr} {l : List V} (hb : H b = some (.lst l)) {d : PyData} (t : TupD d) : ∀ v, Dp K H v d → Dp K (hid b H) v d := by
  induction t with
  | int i => intro v h; cases h.int_eq; exact .int _
  | non => intro v h; cases h; exact .non
  | tup hs ih =>
    intro v h
    obtain ⟨p, xs, rfl, hS, hA⟩ := h.tuple
    exact .tup (seqT_hide hb hS) (DpAll.imp hA ih)
theorem tup_pair (a b : Int) : TupD (pairI a b) := .tup fun d hd => by
  rcases List.mem_cons.mp hd with rfl | z
  · exact .int _
  · rcases List.mem_cons.mp z with rfl | z
    · exact .int _
    · cases z
theorem fine_pair {a b : Nat} (h1 : a ≤ 1000000) (h2 : b ≤ 1000000) : Fine 300 1 (pairI (a : Int) (b : Int)) := by
  have k : (1000000 : Int) < 10 ^ 40 := by decide
  generalize ((10 : Int) ^ 40) = c at k
  exact ((FineAll.cons (fine_int (e := 0) (i := (a : Int)) (by omega) (by omega)) (FineAll.cons (fine_int (e := 0) (i := (b : Int)) (by omega) (by omega)) (FineAll.nil (w := 0)))).tup).mono (by decide) (by decide)
/-- a list of logs -/
def LogsAt (H : Hp) (xs : List V) : Prop := ∀ x ∈ xs, ∃ (a : Addr) (ls : List Nat), x = .ref a ∧ H a = some (.tup (logV ls)) ∧ IsLog ls ∧ 1 ≤ ls.length ∧ ls.length ≤ 200
theorem LogsAt.set {pl : Addr} {H : Hp} {xs us : List V} {u : HO} (h : LogsAt H xs) (B : H pl = some (.lst us)) : LogsAt (upd H pl u) xs := fun x hx => by
  obtain ⟨a, ls, rfl, e, r⟩ := h x hx
  refine ⟨a, ls, rfl, ?_, r⟩
  rw [upd_ne (fun z => by rw [z, B] at e; cases e)]; exact e
theorem LogsAt.snoc {H : Hp} {xs : List V} {a : Addr} {ls : List Nat} (h : LogsAt H xs) (e : H a = some (.tup (logV ls))) (hl : IsLog ls) (l1 : 1 ≤ ls.length) (l2 : ls.length ≤ 200) : LogsAt H (xs ++ [.ref a]) := fun x hx => by
  rcases List.mem_append.mp hx with z | z
  · exact h x z
  · rw [List.mem_singleton.mp z]; exact ⟨a, ls, rfl, e, hl, l1, l2⟩
end Ts
namespace Ts
open PySem PySem.Spec PyProof.Rows L2
/-! ## the simplest share between two bounds -/
def topE (E : Edge) (p : Nat) : Nat := E.a * p / E.b + 1
def okAt (E : Edge) (p : Nat) : Prop := topE E p ≤ p ∧ topE E p * E.d < E.c * p
instance (E : Edge) (p : Nat) : Decidable (okAt E p) := by unfold okAt; exact inferInstance
structure IsFirst (E : Edge) (p : Nat) : Prop where
  pos : 1 ≤ p
  ok : okAt E p
  least : ∀ q, 1 ≤ q → q < p → ¬ okAt E q
theorem top_has {E : Edge} (hb : 0 < E.b) (p : Nat) : E.a * p < topE E p * E.b := by
  unfold topE
  rw [Nat.mul_comm _ E.b]
  exact Nat.lt_mul_div_succ _ hb
theorem top_le_of {E : Edge} (hb : 0 < E.b) {e p : Nat} (h : E.a * p < e * E.b) : topE E p ≤ e := (Nat.div_lt_iff_lt_mul hb).mpr h
theorem ok_of {E : Edge} (hb : 0 < E.b) {e p : Nat} (h : E.has e p) (h3 : e ≤ p) : okAt E p := by
  have t := top_le_of hb h.1
  exact ⟨Nat.le_trans t h3, Nat.lt_of_le_of_lt (Nat.mul_le_mul_right _ t) h.2⟩
theorem IsFirst.uniq {E : Edge} {p q : Nat} (h : IsFirst E p) (g : IsFirst E q) : p = q := by
  rcases Nat.lt_trichotomy p q with z | z | z
  · exact absurd h.ok (g.least p h.pos z)
  · exact z
  · exact absurd g.ok (h.least q g.pos z)
theorem IsFirst.has {E : Edge} {p : Nat} (hb : 0 < E.b) (h : IsFirst E p) : E.has (topE E p) p := ⟨top_has hb p, h.ok.2⟩
theorem IsFirst.gcd {E : Edge} {p : Nat} (hb : 0 < E.b) (h : IsFirst E p) : Nat.gcd (topE E p) p = 1 := by
  have g0 : 0 < Nat.gcd (topE E p) p := Nat.gcd_pos_of_pos_right _ h.pos
  rcases Nat.lt_or_eq_of_le (show 1 ≤ Nat.gcd (topE E p) p from g0) with z | z
  · exfalso
    have hh := h.has hb
    generalize hg : Nat.gcd (topE E p) p = g at g0 z
    have d1 : g ∣ topE E p := hg ▸ Nat.gcd_dvd_left _ _
    have d2 : g ∣ p := hg ▸ Nat.gcd_dvd_right _ _
    obtain ⟨x, hx⟩ := d1
    obtain ⟨y, hy⟩ := d2
    have y1 : 1 ≤ y := by
      rcases Nat.eq_zero_or_pos y with w | w
      · rw [w, Nat.mul_zero] at hy; have := h.pos; omega
      · exact w
    have yp : y < p := by
      rw [hy]
      calc y = 1 * y := (Nat.one_mul y).symm
        _ < g * y := Nat.mul_lt_mul_of_pos_right z y1
    refine h.least y y1 yp (ok_of hb (e := x) ⟨?_, ?_⟩ ?_)
    · have k := hh.1
      have e1 : E.a * p = E.a * y * g := by rw [hy, Nat.mul_comm g y, Nat.mul_assoc]
      have e2 : topE E p * E.b = x * E.b * g := by rw [hx, Nat.mul_comm g x, Nat.mul_right_comm]
      rw [e1, e2] at k
      exact Nat.lt_of_mul_lt_mul_right k
    · have k := hh.2
      have e1 : E.c * p = E.c * y * g := by rw [hy, Nat.mul_comm g y, Nat.mul_assoc]
      have e2 : topE E p * E.d = x * E.d * g := by rw [hx, Nat.mul_comm g x, Nat.mul_right_comm]
      rw [e1, e2] at k
      exact Nat.lt_of_mul_lt_mul_right k
    · have k := h.ok.1
      rw [hx] at k
      have k2 : g * x ≤ g * y := by rw [← hy]; exact k
      exact Nat.le_of_mul_le_mul_left k2 g0
  · exact z.symm
end Ts
namespace Ts
open PySem PySem.Spec PyProof.Rows L2
/-! ## pairs of a number and something else sorted: no two of one number -/
section
variable {prog : Program} {w : World} {A : Around} {E : Value → Shared → Prop} {s : Shared}
def KeyRef (h : Heap) (v : Value) (k : Int) (r : Addr) : Prop := ∃ a xs t, v = Value.ref a ∧ IsTup h a xs ∧ xs.toList = [.int k t, .ref r]
theorem KeyRef.keeps {h h' : Heap} {v : Value} {k : Int} {r : Addr} (g : KeyRef h v k r) (kk : ∀ (b : Addr) (o : Obj), h.get? b = some o → o.cls = .type "tuple" → h'.get? b = some o) : KeyRef h' v k r := by
  obtain ⟨a, xs, t, rfl, ⟨o, ho, hc, n, hd⟩, e⟩ := g
  exact ⟨a, xs, t, rfl, ⟨o, kk a o ho hc, hc, n, hd⟩, e⟩
end
end Ts
namespace Ts
open PySem PySem.Spec PyProof.Rows L2
/-! ## all shares between two bounds, ascending -/
abbrev Frc := Nat × Nat
def ltF (x y : Frc) : Prop := x.1 * y.2 < y.1 * x.2
instance (x y : Frc) : Decidable (ltF x y) := by unfold ltF; exact inferInstance
structure IsShares (E : Edge) (n : Nat) (L : List Frc) : Prop where
  up : L.Pairwise ltF
  mem : ∀ x : Frc, x ∈ L ↔ (1 ≤ x.2 ∧ x.2 ≤ n) ∧ (1 ≤ x.1 ∧ x.1 ≤ x.2) ∧ Nat.gcd x.1 x.2 = 1 ∧ E.has x.1 x.2
theorem up_uniq : ∀ {L M : List Frc}, L.Pairwise ltF → M.Pairwise ltF → (∀ x, x ∈ L ↔ x ∈ M) → L = M
  | [], [], _, _, _ => rfl
  | [], y :: M, _, _, h => absurd ((h y).mpr List.mem_cons_self) (by simp)
  | x :: L, [], _, _, h => absurd ((h x).mp List.mem_cons_self) (by simp)
  | x :: L, y :: M, hL, hM, h => by
    obtain ⟨l1, l2⟩ := List.pairwise_cons.mp hL
    obtain ⟨m1, m2⟩ := List.pairwise_cons.mp hM
    have irr : ∀ z : Frc, ¬ ltF z z := fun z h => Nat.lt_irrefl _ h
    have asy : ∀ z u : Frc, ltF z u → ¬ ltF u z := fun z u h g => Nat.lt_asymm h g
    have e : x = y := by
      rcases List.mem_cons.mp ((h x).mp List.mem_cons_self) with z | z
      · exact z
      · rcases List.mem_cons.mp ((h y).mpr List.mem_cons_self) with u | u
        · exact u.symm
        · exact absurd (l1 y u) (asy _ _ (m1 x z))
    subst e
    rw [up_uniq l2 m2 fun z => ?_]
    constructor
    · intro hz
      rcases List.mem_cons.mp ((h z).mp (List.mem_cons_of_mem _ hz)) with u | u
      · exact absurd (u ▸ l1 z hz) (irr _)
      · exact u
    · intro hz
      rcases List.mem_cons.mp ((h z).mpr (List.mem_cons_of_mem _ hz)) with u | u
      · exact absurd (u ▸ m1 z hz) (irr _)
      · exact u
theorem IsShares.uniq {E : Edge} {n : Nat} {L M : List Frc} (h : IsShares E n L) (g : IsShares E n M) : L = M := up_uniq h.up g.up fun x => (h.mem x).trans (g.mem x).symm
/-- what is found, by any way -/
def isShare (E : Edge) (n : Nat) (x : Frc) : Prop := (1 ≤ x.2 ∧ x.2 ≤ n) ∧ (1 ≤ x.1 ∧ x.1 ≤ x.2) ∧ Nat.gcd x.1 x.2 = 1 ∧ E.has x.1 x.2
structure Found (E : Edge) (n : Nat) (L : List Frc) : Prop where
  nd : L.Nodup
  mem : ∀ x, x ∈ L ↔ isShare E n x
/-- the shares of bottoms up to n, and of the bottom n + 1 with tops below k -/
structure FoundTo (E : Edge) (n k : Nat) (L : List Frc) : Prop where
  nd : L.Nodup
  mem : ∀ x, x ∈ L ↔ (isShare E n x ∨ (x.2 = n + 1 ∧ x.1 < k ∧ isShare E (n + 1) x))
theorem Found.start {E : Edge} {n k : Nat} {L : List Frc} (h : Found E n L) (hk : ∀ e, e < k → ¬ isShare E (n + 1) (e, n + 1)) : FoundTo E n k L := ⟨h.nd, fun x => (h.mem x).trans ⟨.inl, fun z => by
  rcases z with z | ⟨z1, z2, z3⟩
  · exact z
  · exact absurd z3 (by obtain ⟨e, p⟩ := x; dsimp only at *; subst z1; exact hk e z2)⟩⟩
theorem FoundTo.done {E : Edge} {n k : Nat} {L : List Frc} (h : FoundTo E n k L) (hk : ∀ e, k ≤ e → ¬ isShare E (n + 1) (e, n + 1)) : Found E (n + 1) L := ⟨h.nd, fun x => (h.mem x).trans ⟨fun z => by
  rcases z with z | ⟨z1, z2, z3⟩
  · exact ⟨⟨z.1.1, Nat.le_succ_of_le z.1.2⟩, z.2⟩
  · exact z3, fun z => by
  rcases Nat.lt_or_eq_of_le z.1.2 with y | y
  · exact .inl ⟨⟨z.1.1, Nat.le_of_lt_succ y⟩, z.2⟩
  · refine .inr ⟨y, ?_, z⟩
    rcases Nat.lt_or_ge x.1 k with w | w
    · exact w
    · exact absurd z (by obtain ⟨e, p⟩ := x; dsimp only at *; subst y; exact hk e w)⟩⟩
/-! ### candidates: a key, a share -/
/-! ### the two keys -/
/-! ### what is asked -/
end Ts
namespace Ts
open PySem PySem.Spec PyProof.Rows L2 L2H LamX
section
variable {P : Program} {w : World} {K : PySem.W.Frag} {mg : Str → Option Value} {base : Heap}
/-- what never raises, of a def that may raise -/
theorem FnOk.noX {k : Nat} {f : Addr} {fd : FuncData} {ps : List Str} {sp spX : Sp} (F : FnOk P w K mg base (L2.CX P w) k f fd ps spX) (h : ∀ vs H Q E, sp vs H Q E → spX vs H Q (fun _ _ _ => False)) : FnOk P w K mg base CX0 k f fd ps sp := by
  refine ⟨fun vs H Q E q => F.len _ _ _ _ (h _ _ _ _ q), fun A outer s H args us vs Q E hr he hb hv hs => codeAny_mono (F.run A outer s H args us vs Q (fun _ _ _ => False) hr he hb hv (h _ _ _ _ hs)) fun r s' hq => ?_⟩
  cases r with
  | error e => obtain ⟨_, _, _, _, _, _, _, _, _, _, _, _, z⟩ := hq; exact z.elim
  | ok fl => cases fl <;> exact hq
end
/-! ## what stays but for tables -/
theorem TyX.ext {K : PySem.W.Frag} {H H' : Hp} {x : V} {t : Value} (h : TyX K H x t) (s : ExtN H H') : TyX K H' x t := by
  cases h with
  | base b => exact .base (match b with
    | .non => .non
    | .bl x => .bl x
    | .int i => .int i
    | .str x => .str x
    | .flt x => .flt x
    | .lst e => .lst (s _ _ e fun _ z => by cases z)
    | .frz e => .frz (s _ _ e fun _ z => by cases z)
    | .tup e => .tup (s _ _ e fun _ z => by cases z)
    | .dK e => .dK (s _ _ e fun _ z => by cases z)
    | .dT e => .dT (s _ _ e fun _ z => by cases z)
    | .ins e a b c d f => .ins (s _ _ e fun _ z => by cases z) a b c d f)
  | byt b => exact .byt b
  | set e => exact .set (s _ _ e fun _ z => by cases z)
  | kList e c => exact .kList e c
  | kTuple e c => exact .kTuple e c
  | kDict e c => exact .kDict e c
  | fTuple e => exact .fTuple (s _ _ e fun _ z => by cases z)
  | fDict e => exact .fDict (s _ _ e fun _ z => by cases z)
theorem KindV.ext {K : PySem.W.Frag} {H H' : Hp} {v : V} {o : Option Int} (h : KindV K H v o) (s : ExtN H H') : KindV K H' v o := by
  cases o with
  | some i => exact h
  | none => obtain ⟨T, h1, h2⟩ := h; exact ⟨T, h1, TyX.ext h2 s⟩
theorem ThingAt.ext {K : PySem.W.Frag} {H H' : Hp} {v : V} {t : Option (List (Option Int))} (h : ThingAt K H v t) (s : ExtN H H') : ThingAt K H' v t := by
  cases t with
  | none => obtain ⟨T, h1, h2⟩ := h; exact ⟨T, h1, TyX.ext h2 s⟩
  | some os => obtain ⟨p, xs, h1, h2, h3, h4⟩ := h; exact ⟨p, xs, h1, s _ _ h2 (fun _ z => by cases z), h3, fun i x o a b => (h4 i x o a b).ext s⟩
theorem sqt_ext {K : PySem.W.Frag} {H H' : Hp} {a : Addr} {xs : List V} (h : SqT K H a xs) (s : ExtN H H') : SqT K H' a xs := by
  rcases h with (h | ⟨o, h⟩) | h
  · exact .inl (.inl (s _ _ h fun _ z => by cases z))
  · exact .inl (.inr ⟨o, s _ _ h fun _ z => by cases z⟩)
  · exact .inr h
theorem sql_ext {K : PySem.W.Frag} {H H' : Hp} {a : Addr} {xs : List V} (h : SqL K H a xs) (s : ExtN H H') : SqL K H' a xs := by
  rcases h with (h | ⟨o, h⟩) | h
  · exact .inl (.inl (s _ _ h fun _ z => by cases z))
  · exact .inl (.inr ⟨o, s _ _ h fun _ z => by cases z⟩)
  · exact .inr h
mutual
theorem dp_ext {K : PySem.W.Frag} {H H' : Hp} (s : ExtN H H') : ∀ (d : PyData) (v : V), Dp K H v d → Dp K H' v d
  | _, _, .non => .non
  | _, _, .bl b => .bl b
  | _, _, .int i => .int i
  | _, _, .str x => .str x
  | .list ds, _, .lst h a => .lst (sql_ext h s) (dpAll_ext s ds _ a)
  | .tuple ds, _, .tup h a => .tup (sqt_ext h s) (dpAll_ext s ds _ a)
theorem dpAll_ext {K : PySem.W.Frag} {H H' : Hp} (s : ExtN H H') : ∀ (ds : List PyData) (vs : List V), DpAll K H vs ds → DpAll K H' vs ds
  | [], _, .nil => .nil
  | d :: ds, _, .cons h t => .cons (dp_ext s d _ h) (dpAll_ext s ds _ t)
end
theorem ShownV.ext {K : PySem.W.Frag} {H H' : Hp} {v : V} {t : Str} (h : ShownV K H v t) (s : ExtN H H') : ShownV K H' v t := by
  obtain ⟨d, h1, h2⟩ := h
  exact ⟨d, dp_ext s _ _ h1, h2⟩
/-! ## tuples joined, no frozen ones -/
/-! ## the functions of logs, given anything -/
/-! ## what is told -/
/-- the text that is due for the value of an error -/
def shV : V → Str
  | .int i => (PyData.int i).shown
  | _ => PyData.none.shown
/-- what is heard: as it is due -/
def Fits (due : Option (Str × Str)) (w : Str × Str) : Prop := match due with
  | none => w.1 = "back"
  | some d => w = d
end Ts
namespace Ts
open PySem PySem.Spec PyProof.Rows L2 L2H LamX
/-- a list of two texts -/
def PairAt (H : Hp) (v : V) (w : Str × Str) : Prop := ∃ p, v = .ref p ∧ H p = some (.lst [.str w.1, .str w.2])
inductive Pairs (H : Hp) : List V → List (Str × Str) → Prop
  | nil : Pairs H [] []
  | cons {x : V} {w : Str × Str} {xs : List V} {ws : List (Str × Str)} : PairAt H x w → Pairs H xs ws → Pairs H (x :: xs) (w :: ws)
end Ts
namespace Ts
open PySem PySem.Spec PyProof.Rows L2 L2H LamX
abbrev pairW (w : Str × Str) : PyData := .list [.str w.1, .str w.2]
theorem PairAt.mono {H H' : Hp} {v : V} {w : Str × Str} (h : PairAt H v w) (s : Same H H') : PairAt H' v w := by
  obtain ⟨p, h1, h2⟩ := h
  exact ⟨p, h1, s _ _ h2⟩
theorem Pairs.mono {H H' : Hp} (s : Same H H') : ∀ {xs : List V} {ws : List (Str × Str)}, Pairs H xs ws → Pairs H' xs ws
  | _, _, .nil => .nil
  | _, _, .cons h t => .cons (h.mono s) (t.mono s)
theorem Pairs.dp {K : PySem.W.Frag} {H : Hp} : ∀ {xs : List V} {ws : List (Str × Str)}, Pairs H xs ws → DpAll K H xs (ws.map pairW)
  | _, _, .nil => .nil
  | _, _, .cons ⟨_, h1, h2⟩ t => .cons (by rw [h1]; exact .lst (SqL.of h2) (.cons (.str _) (.cons (.str _) .nil))) t.dp
theorem Pairs.length {H : Hp} : ∀ {xs : List V} {ws : List (Str × Str)}, Pairs H xs ws → xs.length = ws.length
  | _, _, .nil => rfl
  | _, _, .cons _ t => by rw [List.length_cons, List.length_cons, t.length]
theorem Pairs.get {H : Hp} : ∀ {xs : List V} {ws : List (Str × Str)} {i : Nat} {x : V}, Pairs H xs ws → xs[i]? = some x → ∃ w, w ∈ ws ∧ PairAt H x w
  | _, _, 0, _, .cons h _, e => by cases e; exact ⟨_, List.mem_cons_self, h⟩
  | _, _, i + 1, _, .cons _ t, e => by
    obtain ⟨w, h1, h2⟩ := t.get (i := i) e
    exact ⟨w, List.mem_cons_of_mem _ h1, h2⟩
end Ts
namespace Ts
open PySem PySem.Spec PyProof.Rows L2 L2H LamX
theorem lay_all : ∀ {ds : List PyData}, (∀ d ∈ ds, d.canLay0 = true ∧ d.depth ≤ 60) → PyData.canLayAll0 ds = true ∧ PyData.depthAll ds ≤ 60
  | [], _ => ⟨rfl, Nat.zero_le _⟩
  | d :: ds, h => by
    obtain ⟨h1, h2⟩ := h d List.mem_cons_self
    obtain ⟨g1, g2⟩ := lay_all (ds := ds) fun x hx => h x (List.mem_cons_of_mem _ hx)
    exact ⟨by show (d.canLay0 && PyData.canLayAll0 ds) = true; rw [h1, g1]; rfl, by show max d.depth (PyData.depthAll ds) ≤ 60; omega⟩
theorem shaped_tup {ds : List PyData} (h : ∀ d ∈ ds, d.canLay0 = true ∧ d.depth ≤ 60) : SeqAt.shaped (.tuple ds) = true := by
  obtain ⟨h1, h2⟩ := lay_all h
  unfold SeqAt.shaped
  rw [show PyData.canLay0 (.tuple ds) = true from h1, decide_eq_true (show PyData.depth (.tuple ds) ≤ 64 by show PyData.depthAll ds + 1 ≤ 64; omega)]; rfl
theorem ThingP.of {K : PySem.W.Frag} {H : Hp} {p : Addr} {xs : List V} {ds : List PyData} (h : H p = some (.tup xs)) (hd : DpAll K H xs ds) (hl : ds.length ≤ 3000) (ok : ∀ d ∈ ds, d.canLay0 = true ∧ d.depth ≤ 60) : ThingP K H (.ref p) (some ds) := ⟨p, xs, rfl, h, hd, hl, shaped_tup ok⟩
end Ts
namespace Ts
open PySem PySem.Spec PyProof.Rows L2 L2H LamX
/-- of a heap only what is said of it counts from now on -/
theorem at_heap {G : Hp → Prop} {Hn : Hp} (C : Hp → Prop) (c : C Hn) (h : ∀ Hx, C Hx → G Hx) : G Hn := h Hn c
theorem at_heap2 {γ : Type} {q : γ} {G : Hp → γ → Prop} {Hn : Hp} (C : Hp → Prop) (c : C Hn) (h : ∀ Hx, C Hx → G Hx q) : G Hn q := h Hn c
end Ts
namespace Ts
open PySem PySem.Spec PyProof.Rows L2
/-! ## list(zip(xs, ys)) of two lists -/
/-- the pairs that were made so far -/
def LzG (us vs : Array Value) (S : Addr) (h : Heap) (ts : List Addr) : Prop := ts.Nodup ∧ ∀ (j : Nat) (t : Addr), ts[j]? = some t → S < t ∧ ∃ x y, us[j]? = some x ∧ vs[j]? = some y ∧ IsPair h t x y
structure LzSt (us vs : Array Value) (S z TI TO i1 i2 a b : Addr) (i : Nat) (h : Heap) : Prop where
  pair : IsPair h TI (.ref i1) (.ref i2)
  it1 : h.IsListIter i1 a i
  it2 : h.IsListIter i2 b i
  l1 : h.IsList a us
  l2 : h.IsList b vs
  held : (IsZip h z TI TO .none ∧ ∃ c d, IsPair h TO c d) ∨ ∃ T f oT, IsZipHeld h z TI TO T f ∧ h.get? T = some oT ∧ S < T
section
variable {prog : Program} {w : World} {A : Around} {s : Shared} {R : Result → Shared → Prop} {us vs : Array Value} {S z TI TO i1 i2 a b : Addr}
theorem lz_loop (hh : A.handled = none) (D : ZipApart z TI TO i1 i2 a b) (bz : z < S) (bTI : TI < S) (bTO : TO < S) (b1 : i1 < S) (b2 : i2 < S) (ba : a < S) (bb : b < S) (hn : min us.size vs.size ≤ sizeLine) (res : Value) {h₁ : Heap}
    (hR : ∀ (h' : Heap) (tk : Nat) (acc : Array Value) (c : Nat) (ts : List Addr), (∀ (x : Addr) (o : Obj), x ≠ z → x ≠ TO → x ≠ i1 → x ≠ i2 → x ≠ S → h₁.get? x = some o → h'.get? x = some o) → h'.get? S = some { cls := .type "list", data := .seq acc c } →
      acc.toList = ts.map Value.ref → ts.length = min us.size vs.size → LzG us vs S h' ts → R (.ok (.ret res)) { heap := h', gens := s.gens, drawn := s.drawn, toks := tk, os := s.os }) :
    ∀ (k i : Nat) (h : Heap) (tk c : Nat) (acc : Array Value) (ts : List Addr), min us.size vs.size - i = k → i ≤ min us.size vs.size → LzSt us vs S z TI TO i1 i2 a b i h →
      (∀ (x : Addr) (o : Obj), x ≠ z → x ≠ TO → x ≠ i1 → x ≠ i2 → x ≠ S → h₁.get? x = some o → h.get? x = some o) → h.get? S = some { cls := .type "list", data := .seq acc c } → acc.toList = ts.map Value.ref → ts.length = i → LzG us vs S h ts →
      codeAny (model prog w) A (.builtin "list.extend.loop" ⟨[.ref S, .ref z, res], []⟩) R { heap := h, gens := s.gens, drawn := s.drawn, toks := tk, os := s.os } := by
  have hA : A.in1.handled = none := hh
  have nz : S ≠ z := Nat.ne_of_gt bz
  have nTO : S ≠ TO := Nat.ne_of_gt bTO
  have n1 : S ≠ i1 := Nat.ne_of_gt b1
  have n2 : S ≠ i2 := Nat.ne_of_gt b2
  intro k
  induction k with
  | zero =>
    intro i h tk c acc ts hk hi st kp hS hacc hal hG
    have hin : i = min us.size vs.size := by omega
    refine codeAny_builtin F.entry_extend_loop ?_
    rw [Around.under_plainId F.plain_extend_loop _]
    have out : us[i]? = none ∨ vs[i]? = none := by
      rw [hin]
      rcases Nat.le_total us.size vs.size with e | e
      · exact .inl (Array.getElem?_eq_none (Nat.le_of_eq (Nat.min_eq_left e).symm))
      · exact .inr (Array.getElem?_eq_none (Nat.le_of_eq (Nat.min_eq_right e).symm))
    have go : ∀ h' : Heap, (∀ (c : Addr) (o : Obj), c ≠ z → c ≠ TO → c ≠ i1 → c ≠ i2 → h.get? c = some o → h'.get? c = some o) → R (.ok (.ret res)) { heap := h', gens := s.gens, drawn := s.drawn, toks := tk, os := s.os } := fun h' e => by
      refine hR h' tk acc c ts (fun x o x1 x2 x3 x4 x5 z => e x o x1 x2 x3 x4 (kp x o x1 x2 x3 x4 x5 z)) (e S _ nz nTO n1 n2 hS) hacc (hal.trans hin) ⟨hG.1, fun j t hj => ?_⟩
      obtain ⟨lt, x, y, e1, e2, e3⟩ := hG.2 j t hj
      exact ⟨lt, x, y, e1, e2, e t _ (Nat.ne_of_gt (Nat.lt_trans bz lt)) (Nat.ne_of_gt (Nat.lt_trans bTO lt)) (Nat.ne_of_gt (Nat.lt_trans b1 lt)) (Nat.ne_of_gt (Nat.lt_trans b2 lt)) e3⟩
    refine wpAny_bind ?_
    rcases st.held with ⟨g, c2, d2, g3⟩ | ⟨T, f, oT, g, gT, r⟩
    · exact wpAny_pyNext_zip_end hA D g st.pair g3 st.it1 st.it2 st.l1 st.l2 out fun h' e => wpAny_pure (go h' e)
    · exact wpAny_pyNext_zip_end_held hA D g gT st.pair st.it1 st.it2 st.l1 st.l2 out fun h' e => wpAny_pure (go h' fun c o c1 _ c3 c4 => e c o c1 c3 c4)
  | succ k ih =>
    intro i h tk c acc ts hk hi st kp hS hacc hal hG
    have hlt : i < min us.size vs.size := by omega
    have ku : i < us.size := Nat.lt_of_lt_of_le hlt (Nat.min_le_left ..)
    have kv : i < vs.size := Nat.lt_of_lt_of_le hlt (Nat.min_le_right ..)
    have eu := Array.getElem?_eq_getElem ku
    have ev := Array.getElem?_eq_getElem kv
    have hSl := Heap.lt_size hS
    have hsz : acc.size = i := by rw [← Array.length_toList, hacc, List.length_map, hal]
    refine codeAny_builtin F.entry_extend_loop ?_
    rw [Around.under_plainId F.plain_extend_loop _]
    refine wpAny_bind ?_
    -- behind the turn
    have go : ∀ (h' : Heap) (T2 : Addr) (f2 : Bool) (oT2 : Obj), IsZipHeld h' z TI TO T2 f2 → h'.get? T2 = some oT2 → S < T2 → h'.IsListIter i1 a (i + 1) → h'.IsListIter i2 b (i + 1) → IsPair h' h.objs.size us[i] vs[i] →
        (∀ (c : Addr) (o : Obj), c ≠ z → c ≠ TO → c ≠ i1 → c ≠ i2 → h.get? c = some o → h'.get? c = some o) →
        wpAny (model prog w) A.in1 (Builtin.List.listUpdate (.ref S) (fun x => x.push (Value.ref h.objs.size)) >>= fun _ => again (.builtin "list.extend.loop" ⟨[.ref S, .ref z, res], []⟩))
          (fun fin s' => match fin with | .done f => R (.ok f) s' | .again c' => c'.quiet = true ∧ codeAny (model prog w) A c' R s') (fun e s' => R (.error e) s') { heap := h', gens := s.gens, drawn := s.drawn, toks := tk, os := s.os } := fun h' T2 f2 oT2 a1 a2 a3 a4 a5 a6 e => by
      have hS' := e S _ nz nTO n1 n2 hS
      have up : ∀ (x : Addr) (o : Obj), x ≠ S → h'.get? x = some o → (h'.update S (Obj.mapSeq fun x => x.push (Value.ref h.objs.size))).get? x = some o := fun x o hx z => (Heap.get?_update_other h' _ (Ne.symm hx)).trans z
      refine wpAny_bind (wpAny_updateSeq hS' rfl (wpAny_pure ⟨plainId_quiet F.plain_extend_loop _, ?_⟩) (by show acc.size ≤ sizeLine; omega) (by show (acc.push _).size ≤ sizeLine + 1; rw [Array.size_push]; omega))
      refine ih (i + 1) _ tk _ (acc.push (.ref h.objs.size)) (ts ++ [h.objs.size]) (by omega) hlt ⟨?_, ?_, ?_, ?_, ?_, ?_⟩ (fun x o x1 x2 x3 x4 x5 y => up x o x5 (e x o x1 x2 x3 x4 (kp x o x1 x2 x3 x4 x5 y))) (Heap.get?_update_self _ hS' rfl) ?_ ?_ ?_
      · exact up _ _ (Nat.ne_of_lt bTI) (e _ _ D.TIz D.TITO D.TIi1 D.TIi2 st.pair)
      · exact a4.at fun o y => up _ o (Nat.ne_of_lt b1) y
      · exact a5.at fun o y => up _ o (Nat.ne_of_lt b2) y
      · exact st.l1.at fun o y => up _ o (Nat.ne_of_lt ba) (e _ o D.l1z D.l1TO D.l1i1 D.l1i2 y)
      · exact st.l2.at fun o y => up _ o (Nat.ne_of_lt bb) (e _ o D.l2z D.l2TO D.l2i1 D.l2i2 y)
      · exact .inr ⟨T2, f2, oT2, up _ _ (Nat.ne_of_lt bz) a1, up _ _ (Nat.ne_of_gt a3) a2, a3⟩
      · rw [Array.toList_push, hacc, List.map_append]; rfl
      · rw [List.length_append, hal]; rfl
      · refine ⟨List.nodup_append.mpr ⟨hG.1, by simp, fun t ht u hu e => ?_⟩, ?_⟩
        · obtain ⟨j, hj⟩ := List.mem_iff_getElem?.mp ht
          obtain ⟨_, x, y, _, _, e3⟩ := hG.2 j t hj
          have : u = h.objs.size := by simpa using hu
          rw [e, this] at e3
          exact absurd (Heap.lt_size e3) (Nat.lt_irrefl _)
        intro j t hj
        by_cases jl : j < ts.length
        · rw [List.getElem?_append_left jl] at hj
          obtain ⟨lt, x, y, e1, e2, e3⟩ := hG.2 j t hj
          exact ⟨lt, x, y, e1, e2, up _ _ (Nat.ne_of_gt lt) (e t _ (Nat.ne_of_gt (Nat.lt_trans bz lt)) (Nat.ne_of_gt (Nat.lt_trans bTO lt)) (Nat.ne_of_gt (Nat.lt_trans b1 lt)) (Nat.ne_of_gt (Nat.lt_trans b2 lt)) e3)⟩
        · rw [List.getElem?_append_right (by omega)] at hj
          have j0 : j - ts.length = 0 := by
            cases e0 : j - ts.length with
            | zero => rfl
            | succ m => rw [e0] at hj; cases hj
          have ji : j = i := by omega
          rw [j0] at hj
          cases hj
          subst ji
          exact ⟨hSl, _, _, eu, ev, up _ _ (Nat.ne_of_gt hSl) a6⟩
    rcases st.held with ⟨g, c2, d2, g3⟩ | ⟨T, f, oT, g, gT, r⟩
    · refine wpAny_pyNext_zip_item D g st.pair g3 st.it1 st.it2 st.l1 st.l2 eu ev fun h' a1 a2 a3 a4 a5 a6 e => ?_
      exact go h' h.objs.size false _ a1 a5 hSl a3 a4 a5 e
    · refine wpAny_pyNext_zip_item_held D g gT st.pair st.it1 st.it2 st.l1 st.l2 eu ev fun h' a1 a2 a3 a4 a5 e => ?_
      exact go h' T true oT a1 (e T _ (Nat.ne_of_gt (Nat.lt_trans bz r)) (Nat.ne_of_gt (Nat.lt_trans b1 r)) (Nat.ne_of_gt (Nat.lt_trans b2 r)) gT) r a2 a3 a4 fun c o c1 _ c3 c4 => e c o c1 c3 c4
theorem lz_hint {E : Value → Shared → Prop} {Q : Bool → Shared → Prop} (hT : s.TypeIs (.ref z) "zip") (h : Q true s) : wpAny (model prog w) A (Builtin.List.listLengthHint (.ref z)) Q E s := by
  unfold Builtin.List.listLengthHint
  refine wpAny_bind (wpAny_specialOf (r := none) hT (by rw [typeLookup_type, builtinLookup_eq_fast]; rfl) ?_)
  dsimp only
  refine wpAny_bind (wpAny_specialOf (r := none) hT (by rw [typeLookup_type, builtinLookup_eq_fast]; rfl) ?_)
  exact wpAny_pure h
theorem lz_extend (hh : A.handled = none) (D : ZipApart z TI TO i1 i2 a b) (bz : z < S) (bTI : TI < S) (bTO : TO < S) (b1 : i1 < S) (b2 : i2 < S) (ba : a < S) (bb : b < S) (hn : min us.size vs.size ≤ sizeLine) (res : Value) (c₀ : Nat)
    (st : LzSt us vs S z TI TO i1 i2 a b 0 s.heap) (hZ : ∃ f0, IsZip s.heap z TI TO f0) (hS : s.heap.get? S = some { cls := .type "list", data := .seq #[] c₀ })
    (hR : ∀ (h' : Heap) (tk : Nat) (acc : Array Value) (c : Nat) (ts : List Addr), (∀ (x : Addr) (o : Obj), x ≠ z → x ≠ TO → x ≠ i1 → x ≠ i2 → x ≠ S → s.heap.get? x = some o → h'.get? x = some o) → h'.get? S = some { cls := .type "list", data := .seq acc c } →
      acc.toList = ts.map Value.ref → ts.length = min us.size vs.size → LzG us vs S h' ts → R (.ok (.ret res)) { heap := h', gens := s.gens, drawn := s.drawn, toks := tk, os := s.os }) :
    wpAny (model prog w) A.in1 (Builtin.List.listExtendWith (.ref S) (.ref z) res) (fun fin s' => match fin with | .done f => R (.ok f) s' | .again c' => c'.quiet = true ∧ codeAny (model prog w) A c' R s') (fun e s' => R (.error e) s') s := by
  obtain ⟨f0, hz⟩ := hZ
  have hT : s.TypeIs (.ref z) "zip" := ⟨_, hz, rfl⟩
  have nz : S ≠ z := Nat.ne_of_gt bz
  unfold Builtin.List.listExtendWith
  refine wpAny_bind (wpAny_typeOf hT ?_)
  have c1 : (Builtin.List.listSameRef (.ref S) (.ref z) || Value.type "zip" == Value.type "list" || Value.type "zip" == Value.type "tuple") = false := by
    have : Builtin.List.listSameRef (.ref S) (.ref z) = false := by
      show (S == z) = false
      exact beq_eq_false_iff_ne.mpr nz
    rw [this]; decide
  rw [c1]
  rw [if_neg (by decide)]
  refine wpAny_bind (wpAny_pyIter_zip hz ?_)
  refine wpAny_bind (wpAny_holding (lz_hint hT ?_))
  dsimp only
  rw [if_pos (by rfl)]
  refine wpAny_bind (wpAny_rule ?_)
  have up1 : ∀ (x : Addr) (o : Obj), x ≠ S → s.heap.get? x = some o → (s.heap.update S (Obj.mapSeq fun x => x.push Value.none)).get? x = some o := fun x o hx z => (Heap.get?_update_other s.heap _ (Ne.symm hx)).trans z
  have at1 := Heap.get?_update_self (Obj.mapSeq fun x => x.push Value.none) hS rfl
  have up2 : ∀ (x : Addr) (o : Obj), x ≠ S → s.heap.get? x = some o → ((s.heap.update S (Obj.mapSeq fun x => x.push Value.none)).update S (Obj.mapSeq fun x => x.pop)).get? x = some o := fun x o hx z => (Heap.get?_update_other _ _ (Ne.symm hx)).trans (up1 x o hx z)
  have at2 := Heap.get?_update_self (Obj.mapSeq fun x => x.pop) at1 rfl
  refine wpAny_bind ?_
  unfold Builtin.List.listTouch
  refine wpAny_bind (wpAny_updateSeq hS rfl ?_ (by show 0 ≤ sizeLine; decide) (by show 1 ≤ sizeLine + 1; decide))
  refine wpAny_updateSeq at1 rfl ?_ (by show 1 ≤ sizeLine; decide) (by show 0 ≤ sizeLine + 1; decide)
  refine wpAny_pure ⟨plainId_quiet F.plain_extend_loop _, ?_⟩
  refine lz_loop hh D bz bTI bTO b1 b2 ba bb hn res (h₁ := s.heap) hR _ 0 _ s.toks _ #[] [] rfl (Nat.zero_le _) ⟨?_, ?_, ?_, ?_, ?_, ?_⟩ (fun x o _ _ _ _ x5 y => up2 x o x5 y) at2 rfl rfl ⟨List.nodup_nil, fun j t hj => by cases hj⟩
  · exact up2 _ _ (Nat.ne_of_lt bTI) st.pair
  · exact st.it1.at fun o y => up2 _ o (Nat.ne_of_lt b1) y
  · exact st.it2.at fun o y => up2 _ o (Nat.ne_of_lt b2) y
  · exact st.l1.at fun o y => up2 _ o (Nat.ne_of_lt ba) y
  · exact st.l2.at fun o y => up2 _ o (Nat.ne_of_lt bb) y
  · rcases st.held with ⟨g, c2, d2, g3⟩ | ⟨T, f, oT, g, gT, r⟩
    · exact .inl ⟨up2 _ _ (Nat.ne_of_lt bz) g, c2, d2, up2 _ _ (Nat.ne_of_lt bTO) g3⟩
    · exact .inr ⟨T, f, oT, up2 _ _ (Nat.ne_of_lt bz) g, up2 _ _ (Nat.ne_of_gt r) gT, r⟩
theorem lz_init (hh : A.handled = none) (D : ZipApart z TI TO i1 i2 a b) (bz : z < S) (bTI : TI < S) (bTO : TO < S) (b1 : i1 < S) (b2 : i2 < S) (ba : a < S) (bb : b < S) (hn : min us.size vs.size ≤ sizeLine)
    (st : LzSt us vs S z TI TO i1 i2 a b 0 s.heap) (hZ : ∃ f0, IsZip s.heap z TI TO f0) (hS : s.heap.get? S = some { cls := .type "list", data := .seq #[] })
    (hR : ∀ (h' : Heap) (tk : Nat) (acc : Array Value) (c : Nat) (ts : List Addr), (∀ (x : Addr) (o : Obj), x ≠ z → x ≠ TO → x ≠ i1 → x ≠ i2 → x ≠ S → s.heap.get? x = some o → h'.get? x = some o) → h'.get? S = some { cls := .type "list", data := .seq acc c } →
      acc.toList = ts.map Value.ref → ts.length = min us.size vs.size → LzG us vs S h' ts → R (.ok (.ret .none)) { heap := h', gens := s.gens, drawn := s.drawn, toks := tk, os := s.os }) :
    wpAny (model prog w) A.in1 (Builtin.«list.__init__» ⟨[.ref S, .ref z], []⟩) (fun fin s' => match fin with | .done f => R (.ok f) s' | .again c' => c'.quiet = true ∧ codeAny (model prog w) A c' R s') (fun e s' => R (.error e) s') s := by
  unfold Builtin.«list.__init__»
  have up1 : ∀ (x : Addr) (o : Obj), x ≠ S → s.heap.get? x = some o → (s.heap.update S (Obj.mapSeq fun _ => #[])).get? x = some o := fun x o hx z => (Heap.get?_update_other s.heap _ (Ne.symm hx)).trans z
  have at1 := Heap.get?_update_self (Obj.mapSeq fun _ => #[]) hS rfl
  show wpAny _ _ (Builtin.List.listItems (.ref S) >>= fun old => Builtin.List.listUpdate (.ref S) (fun _ => #[]) >>= fun _ => letGo old.toList.reverse >>= fun _ => Builtin.List.listExtendWith (.ref S) (.ref z) .none) _ _ _
  refine wpAny_bind (show wpAny _ _ (Builtin.List.listItems (.ref S)) _ _ _ from ?_)
  unfold Builtin.List.listItems
  refine wpAny_bind (wpAny_seqItems hS rfl (wpAny_pure ?_))
  refine wpAny_bind (wpAny_updateSeq hS rfl ?_ (by show 0 ≤ sizeLine; decide) (by show 0 ≤ sizeLine + 1; decide))
  refine wpAny_bind (wpAny_letGo ?_)
  obtain ⟨f0, hz⟩ := hZ
  refine lz_extend hh D bz bTI bTO b1 b2 ba bb hn .none _ ⟨?_, ?_, ?_, ?_, ?_, ?_⟩ ⟨f0, up1 _ _ (Nat.ne_of_lt bz) hz⟩ at1 (fun h' tk acc c ts k1 k2 k3 k4 k5 => hR h' tk acc c ts (fun x o x1 x2 x3 x4 x5 y => k1 x o x1 x2 x3 x4 x5 (up1 x o x5 y)) k2 k3 k4 k5)
  · exact up1 _ _ (Nat.ne_of_lt bTI) st.pair
  · exact st.it1.at fun o y => up1 _ o (Nat.ne_of_lt b1) y
  · exact st.it2.at fun o y => up1 _ o (Nat.ne_of_lt b2) y
  · exact st.l1.at fun o y => up1 _ o (Nat.ne_of_lt ba) y
  · exact st.l2.at fun o y => up1 _ o (Nat.ne_of_lt bb) y
  · rcases st.held with ⟨g, c2, d2, g3⟩ | ⟨T, f, oT, g, gT, r⟩
    · exact .inl ⟨up1 _ _ (Nat.ne_of_lt bz) g, c2, d2, up1 _ _ (Nat.ne_of_lt bTO) g3⟩
    · exact .inr ⟨T, f, oT, up1 _ _ (Nat.ne_of_lt bz) g, up1 _ _ (Nat.ne_of_gt r) gT, r⟩
end
/-! ## several new objects at once -/
def layN (H : Hp) : List (Addr × HO) → Hp
  | [] => H
  | p :: r => layN (upd H p.1 p.2) r
theorem layN_off : ∀ (ns : List (Addr × HO)) (H : Hp) (a : Addr), a ∉ ns.map (·.1) → layN H ns a = H a
  | [], _, _, _ => rfl
  | p :: r, H, a, h => by
    have h1 : a ≠ p.1 := fun e => h (by rw [e]; exact List.mem_cons_self)
    have h2 : a ∉ r.map (·.1) := fun e => h (List.mem_cons_of_mem _ e)
    show layN (upd H p.1 p.2) r a = _
    rw [layN_off r _ a h2, upd_ne h1]
theorem layN_at : ∀ (ns : List (Addr × HO)) (H : Hp), (ns.map (·.1)).Nodup → ∀ p ∈ ns, layN H ns p.1 = some p.2
  | [], _, _, _, h => by cases h
  | q :: r, H, nd, p, h => by
    obtain ⟨n1, n2⟩ := List.nodup_cons.mp nd
    show layN (upd H q.1 q.2) r p.1 = _
    rcases List.mem_cons.mp h with rfl | h
    · rw [layN_off r _ _ n1, upd_same]
    · exact layN_at r _ n2 p h
theorem inv_many {X : Cx} {pins : List (Addr × Obj)} {σ : L2.St} {H : Hp} {s : Shared} {h' : Heap} {t' : Nat} (I : Inv X pins σ H s) (k : ∀ b u, s.heap.get? b = some u → h'.get? b = some u) (ns : List (Addr × HO)) (nd : (ns.map (·.1)).Nodup)
    (ge : ∀ p ∈ ns, s.heap.objs.size ≤ p.1) (ok : ∀ p ∈ ns, ObjOk X.prog X.w (layN H ns) h' p.1 p.2) : Inv X pins σ (layN H ns) { s with heap := h', toks := t' } ∧ Same H (layN H ns) ∧ ∀ p ∈ ns, H p.1 = none := by
  have fr : ∀ p ∈ ns, H p.1 = none := fun p hp => I.hok.fresh (ge p hp)
  have old : ∀ {b : Addr} {o : HO}, H b = some o → layN H ns b = some o := fun {b o} z => by
    rw [layN_off ns H b fun hm => ?_]; exact z
    obtain ⟨p, hp, rfl⟩ := List.mem_map.mp hm
    rw [fr p hp] at z; cases z
  have oldN : ∀ {b : Addr} {u : Obj}, s.heap.get? b = some u → H b = none → layN H ns b = none := fun {b u} z n => by
    rw [layN_off ns H b fun hm => ?_]; exact n
    obtain ⟨p, hp, rfl⟩ := List.mem_map.mp hm
    exact absurd (Heap.lt_size z) (Nat.not_lt.mpr (ge p hp))
  refine ⟨I.un (t' := t') ⟨fun b o z _ _ _ => k b o z, fun b o z _ _ _ => ⟨o.slots, k b o z⟩, fun b o z n _ => oldN z n, fun b o z _ => ⟨o, k b o z⟩, fun b xs z => old z, fun b o u z => old z, fun b ps z => ⟨#[], by rw [Array.append_empty]; exact old z⟩⟩ fun b o z => ?_, fun b o z => old z, fr⟩
  by_cases hm : b ∈ ns.map (·.1)
  · obtain ⟨p, hp, rfl⟩ := List.mem_map.mp hm
    rw [layN_at ns H nd p hp] at z
    cases z
    exact ok p hp
  · rw [layN_off ns H b hm] at z
    exact (I.hok b o z).stay (fun c v _ y => k c v y) (fun c hc => old hc) fun c xs hc => old hc
theorem lt5 {a b : Nat} (h : b = a + 5) (k : Nat) (hk : k < 5) : a + k < b := by omega
theorem vals_refs : ∀ ts : List Addr, Vals (ts.map V.ref) (ts.map Value.ref)
  | [] => .nil
  | t :: ts => .cons rfl (vals_refs ts)
/-- list(zip(xs, ys)) -/
def tListZip (K : PySem.W.Frag) (ta : TA) : TE := fun σ H Q => ta σ H fun vs H1 => ∃ (a b : Addr) (xs ys : List V), vs = [.ref a, .ref b] ∧ SqL K H1 a xs ∧ SqL K H1 b ys ∧
  ∀ (p : Addr) (ts : List Addr) (H2 : Hp), H1 p = none → Same H1 H2 → H2 p = some (.lst (ts.map V.ref)) → ts.length = min xs.length ys.length → (∀ (j : Nat) (t : Addr) (x y : V), ts[j]? = some t → xs[j]? = some x → ys[j]? = some y → H2 t = some (.tup [x, y])) → Q (.ref p) H2
theorem pe_listZip {X : Cx} {e e2 : Expr} {ta : TA} {p1 p2 pos pos2 : Pos} (hc : X.calm = true) (hgd : Gl X "list") (hmd : X.mg "list" = none) (hgz : Gl X "zip") (hmz : X.mg "zip" = none) (ha : PA X [e, e2] ta)
    (hs : starEach [e, e2] X.env = (false, eval e X.env) :: starEach [e2] X.env := by rfl) (hpl : (backTo pos2 (starEach [e2] X.env)).any (·.1) = false := by rfl)
    (hse : starEach [Expr.Call (.Name "zip" p2) [e, e2] [] pos2] X.env = [(false, eval (Expr.Call (.Name "zip" p2) [e, e2] [] pos2) X.env)] := by rfl) :
    PE X (.Call (.Name "list" p1) [.Call (.Name "zip" p2) [e, e2] [] pos2] [] pos) (tListZip X.K ta) := by
  refine ⟨fun pins s σ H Q I h => ?_⟩
  refine Call_ (ld_blt I hgd hmd (by decide +kernel : bootBuiltins "list" = some (.type "list")) (PyProof.Rows.callWith_type1 (args_cons ?_ hse) hse))
  refine Call_ (ld_blt I hgz hmz PyProof.Rows.boot_zip (PyProof.Rows.callWith_type1 (thn (ha.run pos2 pins s σ H _ I h) fun us s1 ⟨vs, H1, I1, r1, q1⟩ => ?_) hs hpl))
  obtain ⟨a, b, xs, ys, ex, sa, sb, q1⟩ := q1
  subst ex
  obtain ⟨u1, u2, rfl, r1, r2⟩ := vals2 r1
  obtain rfl : u1 = Value.ref a := r1
  obtain rfl : u2 = Value.ref b := r2
  obtain ⟨its, rv, p1, z1⟩ := I1.list sa
  obtain ⟨its2, rv2, p2, z2⟩ := I1.list sb
  have la : a < s1.heap.objs.size := by obtain ⟨o, ho, _⟩ := id p1.isList; exact Heap.lt_size ho
  have lb : b < s1.heap.objs.size := by obtain ⟨o, ho, _⟩ := id p2.isList; exact Heap.lt_size ho
  refine zip_begins2 (begins_list a its.toArray) (begins_list b its2.toArray) p1.isList p2.isList fun h' hz hTI hTO g1 g2 hsz hk => args_nil ?_
  have D := PySem.W.ktu_apart s1.heap.objs.size a b la lb
  have I2 : Inv X pins σ H1 { s1 with heap := h' } := I1.kept (t' := s1.toks) hk
  have sz5 : h'.objs.size = s1.heap.objs.size + 5 := hsz
  refine callType_codes (Q₁ := fun ob s2 => ob = Value.ref h'.objs.size ∧ s2 = ⟨h'.push { cls := .type "list", data := .seq #[] }, s1.gens, s1.drawn, s1.toks, s1.os⟩) F.called_list (F.typeCall_list_1 _) F.entry_list_init (code_list_new _ ⟨rfl, rfl⟩) ?_
  rintro ob s2 ⟨rfl, rfl⟩
  have hS := Heap.get?_push_size h' (o := { cls := .type "list", data := .seq #[] }) rfl
  refine ⟨⟨_, hS, rfl⟩, F.args_list_init_2 _ _, ?_⟩
  have pu : ∀ (x : Addr) (o : Obj), h'.get? x = some o → (h'.push { cls := .type "list", data := .seq #[] }).get? x = some o := fun x o e => Heap.get?_push_of_some _ e
  have lx : xs.length = its.toArray.size := by rw [rv.length]; simp
  have ly : ys.length = its2.toArray.size := by rw [rv2.length]; simp
  have hmin : min its.toArray.size its2.toArray.size ≤ sizeLine := by rw [← lx]; exact Nat.le_trans (Nat.min_le_left _ _) z1
  refine lz_init (us := its.toArray) (vs := its2.toArray) (I.ok.hd hc) D (lt5 sz5 4 (by decide)) (lt5 sz5 2 (by decide)) (lt5 sz5 3 (by decide)) (lt5 sz5 0 (by decide)) (lt5 sz5 1 (by decide)) (Nat.lt_trans la (lt5 sz5 0 (by decide))) (Nat.lt_trans lb (lt5 sz5 0 (by decide))) hmin
    ⟨pu _ _ hTI, ⟨_, pu _ _ g1, rfl, rfl⟩, ⟨_, pu _ _ g2, rfl, rfl⟩, p1.isList.at fun o e => pu _ _ (hk _ _ e), p2.isList.at fun o e => pu _ _ (hk _ _ e), .inl ⟨pu _ _ hz, _, _, pu _ _ hTO⟩⟩ ⟨_, pu _ _ hz⟩ hS fun h3 tk acc c ts k1 k2 k3 k4 k5 => ?_
  have keep : ∀ (x : Addr) (o : Obj), s1.heap.get? x = some o → h3.get? x = some o := fun x o e => by
    have lt := Heap.lt_size e
    exact k1 x o (Nat.ne_of_lt (Nat.lt_add_right 4 lt)) (Nat.ne_of_lt (Nat.lt_add_right 3 lt)) (Nat.ne_of_lt lt) (Nat.ne_of_lt (Nat.lt_add_right 1 lt)) (Nat.ne_of_lt (Nat.lt_trans lt (lt5 sz5 0 (by decide)))) (pu _ _ (hk _ _ e))
  have lts : ts.length = min xs.length ys.length := by rw [k4, lx, ly]
  have atx : ∀ (j : Nat) (t : Addr), ts[j]? = some t → ∃ (x y : V), xs[j]? = some x ∧ ys[j]? = some y ∧ h'.objs.size < t ∧ ∃ u v, RelV x u ∧ RelV y v ∧ IsPair h3 t u v := fun j t hj => by
    obtain ⟨lt, u, v, e1, e2, e3⟩ := k5.2 j t hj
    have jl := (List.getElem?_eq_some_iff.mp hj).1
    have jx : j < xs.length := by omega
    have jy : j < ys.length := by omega
    obtain ⟨u', f1, f2⟩ := rv.get (List.getElem?_eq_getElem jx)
    obtain ⟨v', f3, f4⟩ := rv2.get (List.getElem?_eq_getElem jy)
    have e1' : its[j]? = some u := by simpa using e1
    have e2' : its2[j]? = some v := by simpa using e2
    rw [e1'] at f1
    rw [e2'] at f3
    cases f1
    cases f3
    exact ⟨_, _, List.getElem?_eq_getElem jx, List.getElem?_eq_getElem jy, lt, _, _, f2, f4, e3⟩
  -- the new objects
  let ns : List (Addr × HO) := (h'.objs.size, .lst (ts.map V.ref)) :: (ts.zip (xs.zip ys)).map fun q => (q.1, .tup [q.2.1, q.2.2])
  have nsm : ∀ p ∈ ns, p = (h'.objs.size, .lst (ts.map V.ref)) ∨ ∃ (j : Nat) (t : Addr) (x y : V), ts[j]? = some t ∧ xs[j]? = some x ∧ ys[j]? = some y ∧ p = (t, .tup [x, y]) := fun p hp => by
    rcases List.mem_cons.mp hp with h | h
    · exact .inl h
    · obtain ⟨q, hq, rfl⟩ := List.mem_map.mp h
      obtain ⟨j, hj⟩ := List.mem_iff_getElem?.mp hq
      obtain ⟨t, r⟩ := q
      rw [List.getElem?_zip_eq_some] at hj
      obtain ⟨j1, j2⟩ := hj
      obtain ⟨x, y⟩ := r
      rw [List.getElem?_zip_eq_some] at j2
      exact .inr ⟨j, t, x, y, j1, j2.1, j2.2, rfl⟩
  have e1 : ns.map (·.1) = h'.objs.size :: ts := by
    show h'.objs.size :: ((ts.zip (xs.zip ys)).map fun q => ((q.1, HO.tup [q.2.1, q.2.2]) : Addr × HO)).map (·.1) = _
    rw [List.map_map]
    congr 1
    show (ts.zip (xs.zip ys)).map Prod.fst = ts
    rw [List.map_fst_zip]
    rw [List.length_zip, lts]; exact Nat.le_refl _
  have nd : (ns.map (·.1)).Nodup := by
    rw [e1]
    refine List.nodup_cons.mpr ⟨fun hm => ?_, k5.1⟩
    obtain ⟨j, hj⟩ := List.mem_iff_getElem?.mp hm
    exact absurd (k5.2 j _ hj).1 (Nat.lt_irrefl _)
  have ge : ∀ p ∈ ns, s1.heap.objs.size ≤ p.1 := fun p hp => by
    rcases nsm p hp with rfl | ⟨j, t, x, y, a1, a2, a3, rfl⟩
    · exact Nat.le_of_lt (lt5 sz5 0 (by decide))
    · have := (k5.2 j t a1).1
      exact Nat.le_of_lt (Nat.lt_trans (lt5 sz5 0 (by decide)) this)
  have ok : ∀ p ∈ ns, ObjOk X.prog X.w (layN H1 ns) h3 p.1 p.2 := fun p hp => by
    rcases nsm p hp with rfl | ⟨j, t, x, y, a1, a2, a3, rfl⟩
    · refine ⟨by rw [List.length_map, lts]; exact Nat.le_trans (Nat.min_le_left _ _) z1, acc.toList, c, ?_, by rw [Array.toArray_toList]; exact k2⟩
      rw [k3]
      exact vals_refs ts
    · obtain ⟨x', y', b1, b2, _, u, v, r1, r2, e3⟩ := atx j t a1
      rw [a2] at b1
      rw [a3] at b2
      cases b1
      cases b2
      exact ⟨by show 2 ≤ sizeLine; decide, [u, v], .cons r1 (.cons r2 .nil), ⟨_, e3, rfl, _, rfl⟩⟩
  obtain ⟨J, sm, fr⟩ := inv_many (t' := tk) I1 keep ns nd ge ok
  · have inN := layN_at ns H1 nd
    refine ⟨rfl, V.ref h'.objs.size, _, J, rfl, q1 _ ts _ (fr _ List.mem_cons_self) sm (inN _ List.mem_cons_self) lts fun j t x y a1 a2 a3 => ?_⟩
    refine inN (t, .tup [x, y]) (List.mem_cons_of_mem _ (List.mem_map.mpr ⟨(t, x, y), ?_, rfl⟩))
    refine List.mem_iff_getElem?.mpr ⟨j, ?_⟩
    rw [List.getElem?_zip_eq_some]
    refine ⟨a1, ?_⟩
    rw [List.getElem?_zip_eq_some]
    exact ⟨a2, a3⟩
end Ts
namespace Ts
open PySem PySem.Spec PyProof.Rows L2
/-! ## rules that name the keeper -/
section
variable {X : Cx} {K : PySem.W.Frag} {e : Expr} {te : TE} {ta : TA} {p pos tpos : Pos} {f : Str} {elts : List Expr} {kk : Nat}
theorem pe_fldK (hK : X.K = K) (he : PE X e te) (hb : attributeBase e f X.env (eval e X.env) = eval e X.env) : PE X (.Attribute e f pos) (tFld K te f) := by subst hK; exact pe_fld he hb
theorem cr_sumK (hK : X.K = K) (hc : X.calm = true) : CallR X (.builtin "sum") (rSum K) := by subst hK; exact cr_sum hc
theorem pi_enumK (hK : X.K = K) (hg : Gl X "enumerate") (hm : X.mg "enumerate" = none) (ha : PA X [e] ta) (hs : starEach [e] X.env = [(false, eval e X.env)] := by rfl) : PI X (.Tuple elts kk tpos) (.Call (.Name "enumerate" p) [e] [] pos) (iEnum K ta) := by subst hK; exact pi_enum hg hm ha hs
end
theorem atI_neg {α : Type} {xs : List α} {v : α} (h : xs[xs.length - 1]? = some v) : atI xs (-1) = some v := by
  have hl : xs ≠ [] := fun e => by rw [e] at h; cases h
  obtain ⟨ys, y, rfl⟩ : ∃ ys y, xs = ys ++ [y] := ⟨xs.dropLast, xs.getLast hl, (List.dropLast_concat_getLast hl).symm⟩
  rw [List.length_append, List.getElem?_append_right (by simp)] at h
  have : y = v := by simpa using h
  rw [this]; exact atI_last ys v
theorem cut_one {xs : List V} (h : 1 ≤ xs.length) : cutV xs (some 1) none = xs.drop 1 := by
  have e : HT.sIx xs.length 0 (some 1) = 1 := by
    show (if (1 : Int) < 0 then ((1 : Int) + (xs.length : Int)).toNat else min (1 : Int).toNat xs.length) = _
    rw [if_neg (by decide)]
    exact Nat.min_eq_left h
  unfold cutV
  rw [e, HT.sIx_none, List.take_of_length_le (by rw [List.length_drop]; exact Nat.le_refl _)]
/-! ## a walk -/
structure WalkC (K : PySem.W.Frag) (mg : Str → Option Value) (C : Addr) : Prop where
  cl : Cls K C
  nticks : PySem.W.findIn K (.ref C) "ticks" = some none
  nmost : PySem.W.findIn K (.ref C) "most" = some none
  nsizes : PySem.W.findIn K (.ref C) "sizes" = some none
  nparts : PySem.W.findIn K (.ref C) "parts" = some none
  nlows : PySem.W.findIn K (.ref C) "lows" = some none
  ndoubles : PySem.W.findIn K (.ref C) "doubles" = some none
  ngrown : PySem.W.findIn K (.ref C) "grown" = some none
  nliving : PySem.W.findIn K (.ref C) "living" = some none
  mgC : mg "Walk" = some (.ref C)
def lowsR (js : List Job) (t : Nat) : List Int := js.map fun j => lowI j.2.1 j.2.2 (t : Int)
def doubN (js : List Job) (t : Nat) : Nat := crewN (posL (fun j : Job => decide (lowI j.2.1 j.2.2 (t : Int) < highI j.2.1 j.2.2 (t : Int))) js 0)
def growN (js : List Job) (t : Nat) : Nat := grownL (lowsR js t) (lowsR js (t + 1))
def naL (n : Nat) : List Nat := (List.range n).map (notAheadN n)
def livK (js : List Job) (hs : List Nat) : Nat → Nat
  | 0 => possN js.length (doubN js hs.length)
  | k + 1 => beforeN (livK js hs k) (growN js (hs.length - (k + 1))) (naL js.length) (hs.getD (hs.length - (k + 1)) 0) &&& possN js.length (doubN js (hs.length - (k + 1)))
def livL (js : List Job) (hs : List Nat) : List Nat := if livK js hs hs.length = 0 then List.replicate (hs.length + 1) 0 else (List.range (hs.length + 1)).map fun m => livK js hs (hs.length - m)
def Seq (K : PySem.W.Frag) (H : Hp) (a : Addr) (xs : List V) : Prop := SqL K H a xs ∨ SqT K H a xs
theorem Seq.mono {K : PySem.W.Frag} {H H' : Hp} {a : Addr} {xs : List V} (h : Seq K H a xs) (s : Same H H') : Seq K H' a xs := h.imp (fun z => s.seq z) fun z => sameT s z
abbrev rowsD (js : List Job) (m : Nat) : List PyData := (List.range m).map fun t => PyData.list ((lowsR js t).map PyData.int)
/-- the fields of a walk but the last one -/
structure WalkF (K : PySem.W.Frag) (H : Hp) (fs : List (Str × V)) (js : List Job) (hs : List Nat) : Prop where
  ticks : fs.lookup ("ticks" : Str) = some (.int (hs.length : Int))
  most : ∃ a, fs.lookup ("most" : Str) = some (.ref a) ∧ Seq K H a (natV hs)
  sizes : ∃ a, fs.lookup ("sizes" : Str) = some (.ref a) ∧ SqL K H a (natV (sizesN js.length))
  parts : ∃ v, fs.lookup ("parts" : Str) = some v ∧ Dp K H v (.list (subsD js.length))
  lows : ∃ v, fs.lookup ("lows" : Str) = some v ∧ Dp K H v (.list (rowsD js (hs.length + 1)))
  doubles : ∃ a, fs.lookup ("doubles" : Str) = some (.ref a) ∧ SqL K H a (natV ((List.range (hs.length + 1)).map (doubN js)))
  grown : ∃ a, fs.lookup ("grown" : Str) = some (.ref a) ∧ SqL K H a (natV ((List.range hs.length).map (growN js)))
theorem WalkF.mono {K : PySem.W.Frag} {H H' : Hp} {fs : List (Str × V)} {js : List Job} {hs : List Nat} (h : WalkF K H fs js hs) (s : Same H H') : WalkF K H' fs js hs := by
  obtain ⟨a, ⟨b1, b2, b3⟩, ⟨c1, c2, c3⟩, ⟨d1, d2, d3⟩, ⟨e1, e2, e3⟩, ⟨f1, f2, f3⟩, ⟨g1, g2, g3⟩⟩ := h
  exact ⟨a, ⟨b1, b2, b3.mono s⟩, ⟨c1, c2, s.seq c3⟩, ⟨d1, d2, d3.mono s⟩, ⟨e1, e2, e3.mono s⟩, ⟨f1, f2, s.seq f3⟩, ⟨g1, g2, s.seq g3⟩⟩
structure WalkAt (K : PySem.W.Frag) (C : Addr) (H : Hp) (a : Addr) (js : List Job) (hs : List Nat) : Prop where
  ex : ∃ dx fs, H a = some (.ins C dx fs) ∧ WalkF K H fs js hs ∧ (∃ p, fs.lookup ("living" : Str) = some (.ref p) ∧ SqL K H p (natV (livL js hs))) ∧ fs.lookup ("crews" : Str) = none ∧ fs.lookup ("is_alive" : Str) = none ∧ fs.lookup ("choices" : Str) = none ∧ fs.lookup ("ahead_behind" : Str) = none ∧ fs.lookup ("ahead_before" : Str) = none ∧ fs.lookup ("numbers_of" : Str) = none
theorem WalkAt.mono {K : PySem.W.Frag} {C : Addr} {H H' : Hp} {a : Addr} {js : List Job} {hs : List Nat} (h : WalkAt K C H a js hs) (s : Same H H') : WalkAt K C H' a js hs := by
  obtain ⟨dx, fs, h1, h2, ⟨p, h3, h4⟩, h5⟩ := h.ex
  exact ⟨dx, fs, s _ _ h1, h2.mono s, ⟨p, h3, s.seq h4⟩, h5⟩
/-! ## what is asked -/
def spLivingOf (K : PySem.W.Frag) (C : Addr) : Sp := fun vs H Q _ => ∃ (a dx : Addr) (fs : List (Str × V)) (js : List Job) (hs : List Nat), vs = [.ref a, .int (js.length : Int)] ∧ H a = some (.ins C dx fs) ∧ WalkF K H fs js hs ∧ js.length ≤ 6 ∧ hs.length ≤ 990 ∧ (∀ m ∈ hs, m ≤ 1000) ∧
  ∀ (p : Addr) (H' : Hp), H p = none → Same H H' → H' p = some (.lst (natV (livL js hs))) → Q (.ref p) H'
theorem rgc_down {n : Nat} (h : n ≤ 1000) : RgC ((n : Int) - 1) (-1) (-1) n := by
  have go : ∀ n : Fin 1001, Builtin.Range.small (((n.val : Nat) : Int) - 1) (-1) (-1) = true ∧ Builtin.Range.rangeSize (((n.val : Nat) : Int) - 1) (-1) (-1) = ((n.val : Nat) : Int) := by decide +kernel
  exact ⟨by decide, by decide, (go ⟨n, by omega⟩).1, (go ⟨n, by omega⟩).2⟩
theorem range_rev {α : Type} (g : Nat → α) (n : Nat) : ((List.range (n + 1)).map g).reverse = (List.range (n + 1)).map fun m => g (n - m) := by
  refine List.ext_getElem? fun i => ?_
  by_cases h : i < n + 1
  · rw [List.getElem?_reverse (by rw [List.length_map, List.length_range]; exact h), List.length_map, List.length_range, List.getElem?_map, List.getElem?_map, List.getElem?_range (by omega), List.getElem?_range h]
    show some (g (n + 1 - 1 - i)) = some (g (n - i))
    congr 2
  · rw [List.getElem?_eq_none (by rw [List.length_reverse, List.length_map, List.length_range]; omega), List.getElem?_eq_none (by rw [List.length_map, List.length_range]; omega)]
/-! ## bounds -/
theorem doub_lt (js : List Job) (t : Nat) : doubN js t < 2 ^ js.length := posL_lt0 _ _
theorem grown_lt (js : List Job) (t : Nat) : growN js t < 2 ^ js.length := by
  unfold growN grownL
  have h := posL_lt0 (fun q : Int × Int => decide (q.1 < q.2)) ((lowsR js t).zip (lowsR js (t + 1)))
  have e : ((lowsR js t).zip (lowsR js (t + 1))).length = js.length := by
    rw [List.length_zip]; unfold lowsR; rw [List.length_map, List.length_map, Nat.min_self]
  rw [e] at h; exact h
theorem na_lt {n : Nat} (h : n ≤ 6) : ∀ o ∈ naL n, o < 2 ^ 64 := by
  have go : ∀ n : Fin 7, ∀ o ∈ naL n.val, o < 2 ^ 64 := by decide +kernel
  exact go ⟨n, by omega⟩
theorem poss_at {n c : Nat} (h : c < 2 ^ n) : ((subsN n).map crewN)[c]? = some (possN n c) := by
  have hl : c < (subsN n).length := by rw [subs_len]; exact h
  rw [List.getElem?_map, List.getElem?_eq_getElem hl]
  unfold possN
  rw [List.getD_eq_getElem?_getD, List.getElem?_eq_getElem hl]; rfl
/-! ## what stays when an object gets a field -/
section
variable {K : PySem.W.Frag} {H H' : Hp} {a : Addr} {o : HO}
theorem dp_but {v : V} {d : PyData} (ha : H a = some o) (n : NoSeq o) (b : But a H H') (h : Dp K H v d) : Dp K H' v d := ((h.hide ha n).mono b.hid).mono hid_sub
theorem sql_but {p : Addr} {xs : List V} (ha : H a = some o) (n : NoSeq o) (b : But a H H') (h : SqL K H p xs) : SqL K H' p xs := hid_sub.seq (b.hid.seq (h.hide ha n))
theorem sqt_but {p : Addr} {xs : List V} (ha : H a = some o) (n : NoSeq o) (b : But a H H') (h : SqT K H p xs) : SqT K H' p xs := sameT hid_sub (sameT b.hid (h.hide ha n))
theorem dpa_but {vs : List V} {ds : List PyData} (ha : H a = some o) (n : NoSeq o) (b : But a H H') (h : DpAll K H vs ds) : DpAll K H' vs ds := ((h.hide ha n).mono b.hid).mono hid_sub
theorem seq_but {p : Addr} {xs : List V} (ha : H a = some o) (n : NoSeq o) (b : But a H H') (h : Seq K H p xs) : Seq K H' p xs := h.imp (sql_but ha n b) (sqt_but ha n b)
end
def spInitW (K : PySem.W.Frag) (C : Addr) : Sp := fun vs H Q _ => ∃ (a dx ps ph : Addr) (xs : List V) (js : List Job) (hs : List Nat), vs = [.ref a, .ref ps, .ref ph] ∧ H a = some (.ins C dx []) ∧ SqT K H ps xs ∧ DpAll K H xs (sharesD js) ∧ Seq K H ph (natV hs) ∧ Good 16 js ∧ js.length ≤ 6 ∧ hs.length ≤ 990 ∧ (∀ m ∈ hs, m ≤ 1000) ∧
  ∀ H', But a H H' → WalkAt K C H' a js hs → Q .non H'
abbrev numsD (js : List Job) (m : Nat) : List PyData := (List.range m).map fun t : Nat => PyData.list (js.map (lohiD ((t : Nat) : Int)))
end Ts
namespace Ts
open PySem PySem.Spec PyProof.Rows L2
/-! ## what a walk tells -/
def aliveB (js : List Job) (hs : List Nat) (m c : Nat) : Bool := decide ((livL js hs).getD m 0 / 2 ^ c % 2 = 1)
def crewsN (js : List Job) (hs : List Nat) (m a : Nat) : List Nat :=
  (((subsN js.length).getD (needN (doubN js (m + 1)) (xorN (growN js m) a)) []).filter fun p => decide ((sizesN js.length).getD p 0 + (sizesN js.length).getD (needN (growN js m) a) 0 ≤ hs.getD m 0)).map (needN (growN js m) a + ·)
def choicesN (js : List Job) (hs : List Nat) (m a : Nat) : List Nat := (crewsN js hs m a).filter fun c => (livL js hs).getD (m + 1) 0 / 2 ^ (a + c - growN js m) % 2 == 1
def spAlive (K : PySem.W.Frag) (C : Addr) : Sp := fun vs H Q _ => ∃ (a : Addr) (m c : Nat) (js : List Job) (hs : List Nat), vs = [.ref a, .int (m : Int), .int (c : Int)] ∧ WalkAt K C H a js hs ∧ m ≤ hs.length ∧ Q (.bl (aliveB js hs m c)) H
def spCrews (K : PySem.W.Frag) (C : Addr) : Sp := fun vs H Q _ => ∃ (a : Addr) (m c : Nat) (js : List Job) (hs : List Nat), vs = [.ref a, .int (m : Int), .int (c : Int)] ∧ WalkAt K C H a js hs ∧ js.length ≤ 6 ∧ m < hs.length ∧
  ∀ (p : Addr) (H' : Hp), H p = none → Same H H' → H' p = some (.lst (natV (crewsN js hs m c))) → Q (.ref p) H'
def spChoicesW (K : PySem.W.Frag) (C : Addr) : Sp := fun vs H Q _ => ∃ (a : Addr) (m c : Nat) (js : List Job) (hs : List Nat), vs = [.ref a, .int (m : Int), .int (c : Int)] ∧ WalkAt K C H a js hs ∧ js.length ≤ 6 ∧ m < hs.length ∧
  ∀ (p : Addr) (H' : Hp), H p = none → Same H H' → H' p = some (.lst (natV (choicesN js hs m c))) → Q (.ref p) H'
theorem liv_len (js : List Job) (hs : List Nat) : (livL js hs).length = hs.length + 1 := by
  unfold livL
  split
  · rw [List.length_replicate]
  · rw [List.length_map, List.length_range]
theorem getD_at {l : List Nat} {i : Nat} (h : i < l.length) : (natV l)[i]? = some (V.int ((l.getD i 0 : Nat) : Int)) := by
  rw [List.getElem?_map, List.getElem?_eq_getElem h, List.getD_eq_getElem?_getD, List.getElem?_eq_getElem h]; rfl
theorem getD_range (g : Nat → Nat) {n i : Nat} (h : i < n) : ((List.range n).map g).getD i 0 = g i := by
  rw [List.getD_eq_getElem?_getD, List.getElem?_map, List.getElem?_range h]; rfl
theorem crews_in {js : List Job} {hs : List Nat} {m a : Nat} : ∀ c ∈ crewsN js hs m a, growN js m ≤ a + c ∧ c < 2 ^ js.length + 2 ^ js.length := fun c hc => by
  unfold crewsN at hc
  obtain ⟨p, hp, rfl⟩ := List.mem_map.mp hc
  have hp := (List.mem_filter.mp hp).1
  have h1 := need_ge (growN js m) a
  have h2 := need_le (growN js m) a
  have h3 := grown_lt js m
  refine ⟨by omega, ?_⟩
  have hl : needN (doubN js (m + 1)) (xorN (growN js m) a) < (subsN js.length).length := by
    rw [subs_len]
    exact Nat.lt_of_le_of_lt (need_le _ _) (doub_lt js (m + 1))
  rw [List.getD_eq_getElem?_getD, List.getElem?_eq_getElem hl] at hp
  have := (subs_in js.length _ (List.getElem_mem hl)).2 p hp
  omega
theorem crews_len {js : List Job} {hs : List Nat} {m a : Nat} (l6 : js.length ≤ 6) : (crewsN js hs m a).length ≤ 64 := by
  unfold crewsN
  rw [List.length_map]
  refine Nat.le_trans (List.length_filter_le _ _) ?_
  have hl : needN (doubN js (m + 1)) (xorN (growN js m) a) < (subsN js.length).length := by
    rw [subs_len]
    exact Nat.lt_of_le_of_lt (need_le _ _) (doub_lt js (m + 1))
  rw [List.getD_eq_getElem?_getD, List.getElem?_eq_getElem hl]
  exact Nat.le_trans (subs_in js.length _ (List.getElem_mem hl)).1 (Nat.le_trans (Nat.pow_le_pow_right (by decide) l6) (by decide))
end Ts
namespace Ts
open PySem PySem.Spec PyProof.Rows L2
/-! ## rows of numbers sorted, the first of them empty -/
theorem first_lex : ∀ (ns ms : List Int) (fin : Bool), fin = decide (ns.length < ms.length) → SeqAt.firstLt (fun j => decide (ns.getD j 0 = ms.getD j 0)) (fun j => decide (ns.getD j 0 < ms.getD j 0)) fin (List.range (min ns.length ms.length)) = HT.lexLt ns ms := by
  intro ns
  induction ns with
  | nil =>
    intro ms fin hf
    rw [List.length_nil, Nat.zero_min, List.range_zero]
    show fin = _
    cases ms with
    | nil => rw [HT.lexLt_nil_nil, hf]; rfl
    | cons y ms => rw [HT.lexLt_nil_cons, hf]; exact decide_eq_true (by simp)
  | cons x ns ih =>
    intro ms fin hf
    cases ms with
    | nil =>
      rw [List.length_nil, Nat.min_zero, List.range_zero]
      show fin = _
      rw [HT.lexLt_cons_nil, hf]; exact decide_eq_false (by simp)
    | cons y ms =>
      rw [HT.lexLt_cons, List.length_cons, List.length_cons, Nat.succ_min_succ, List.range_succ_eq_map]
      show (if decide (x = y) = true then SeqAt.firstLt _ _ fin ((List.range (min ns.length ms.length)).map Nat.succ) else decide (x < y)) = _
      by_cases e : x = y
      · rw [if_pos (decide_eq_true e), if_pos e, W.firstLt_map]
        exact ih ms fin (by rw [hf]; simp)
      · rw [if_neg (by simpa using e), if_neg e]
section
variable {prog : Program} {w : World} {A : Around} {E : Value → Shared → Prop} {s : Shared}
theorem ints_at {vs : List Value} {ns : List Int} (h : IntsAre vs ns) : vs.length = ns.length ∧ ∀ (j : Nat) (h1 : j < vs.length), ∃ t, vs[j] = Value.int (ns.getD j 0) t := by
  induction h with
  | nil => exact ⟨rfl, fun j h => absurd h (Nat.not_lt_zero _)⟩
  | cons n t _ ih =>
    refine ⟨by rw [List.length_cons, List.length_cons, ih.1], fun j h1 => ?_⟩
    cases j with
    | zero => exact ⟨t, rfl⟩
    | succ j => exact ih.2 j (by simpa using h1)
/-- x < y of two rows, by their own way to compare -/
theorem rows_one (hu : A.units < cLine) {x y : Value} {ns ms : List Int} (hx : TS.TupInts s.heap x ns) (hy : TS.TupInts s.heap y ms) {Q : Bool → Shared → Prop} (q : Q (HT.lexLt ns ms) s) : wpAny (model prog w) A (oneLt' true x y) Q E s := by
  obtain ⟨a, xs, rfl, ⟨⟨c1, dd, dt, sl⟩, ho, hc, n, hd⟩, i1⟩ := hx
  obtain ⟨b, ys, rfl, ⟨⟨c2, dd2, dt2, sl2⟩, ho2, hc2, n2, hd2⟩, i2⟩ := hy
  dsimp only at hc hd hc2 hd2
  subst hc hd hc2 hd2
  obtain ⟨l1, a1⟩ := ints_at i1
  obtain ⟨l2, a2⟩ := ints_at i2
  rw [Array.length_toList] at l1 l2
  rw [oneLt'_eq]
  show wpAny _ _ (cRoomFor "comparison" [Value.ref a, Value.ref b] >>= fun _ => callSpecialIfBound? (.ref a) (Str.ofString "__lt__") [.ref b] >>= fun r => _) _ _ _
  refine wpAny_bind (wpAny_cRoomFor hu ?_)
  refine wpAny_bind (wpAny_callSpecialIfBound?_slot (T := "tuple") ⟨_, ho, rfl⟩ PySem.F.slot_tuple_lt ?_)
  refine call_meets PySem.F.slot_tuple_lt ⟨_, ho, rfl⟩ PySem.F.entry_tuple_lt (PySem.F.args_tuple_lt_2 _ _) (SeqAt.tuple_ltAt a b xs ys n n2 dd dd2 sl sl2 (fun j => decide (ns.getD j 0 = ms.getD j 0)) (fun j => decide (ns.getD j 0 < ms.getD j 0))) ⟨ho, ho2, fun j h1 h2 => ?_, fun j h1 h2 _ => ?_, ?_⟩
  · obtain ⟨t, e1⟩ := a1 j (by rw [Array.length_toList]; exact h1)
    obtain ⟨u, e2⟩ := a2 j (by rw [Array.length_toList]; exact h2)
    rw [Array.getElem_toList] at e1 e2
    rw [e1, e2]
    have := SeqAt.EqAt.int_int (A := A.in1) (s := s) (ns.getD j 0) t (ms.getD j 0) u
    exact this
  · obtain ⟨t, e1⟩ := a1 j (by rw [Array.length_toList]; exact h1)
    obtain ⟨u, e2⟩ := a2 j (by rw [Array.length_toList]; exact h2)
    rw [Array.getElem_toList] at e1 e2
    rw [e1, e2]
    exact fun prog w E Q h => PySem.P.lt_int h
  · rw [l1, l2, first_lex ns ms _ rfl]
    exact wpAny_truthy_bool q
theorem types_go : ∀ (vs : List Value) {Q : List Value → Shared → Prop}, (∀ v ∈ vs, ∃ ns, TS.TupInts s.heap v ns) → Q (List.replicate vs.length (.type "tuple")) s → wpAny (model prog w) A (List.mapM typeOf vs) Q E s
  | [], Q, _, q => by rw [List.mapM_nil]; exact wpAny_pure q
  | v :: vs, Q, g, q => by
    rw [List.mapM_cons]
    obtain ⟨ns, a, xs, rfl, ⟨o, ho, hc, n, hd⟩, _⟩ := g v List.mem_cons_self
    refine wpAny_bind (wpAny_typeOf (T := "tuple") ⟨o, ho, hc⟩ (wpAny_bind ?_))
    exact types_go vs (fun u hu => g u (List.mem_cons_of_mem _ hu)) (wpAny_pure q)
theorem firsts_go : ∀ (vs : List Value) {Q : List (Option Value) → Shared → Prop}, (∀ v ∈ vs, ∃ ns, TS.TupInts s.heap v ns) → (∀ l : List (Option Value), (∀ (v : Value) (r : List Value), vs = v :: r → TS.TupInts s.heap v [] → l[0]? = some none) → Q l s) → wpAny (model prog w) A (List.mapM firstOfTuple' vs) Q E s
  | [], Q, _, q => by rw [List.mapM_nil]; exact wpAny_pure (q [] fun v r e => by cases e)
  | v :: vs, Q, g, q => by
    rw [List.mapM_cons]
    obtain ⟨ns, a, xs, rfl, ⟨o, ho, hc, n, hd⟩, hi⟩ := g v List.mem_cons_self
    refine wpAny_bind (show wpAny _ _ (typeOf (.ref a) >>= fun t => if (t != Value.type "tuple") = true then pure none else Builtin.List.listItems (.ref a) >>= fun xs => pure xs[0]?) _ _ _ from ?_)
    refine wpAny_bind (wpAny_typeOf (T := "tuple") ⟨o, ho, hc⟩ ?_)
    rw [if_neg (by decide)]
    refine wpAny_bind (show wpAny _ _ (Builtin.List.listItems (.ref a)) _ _ _ from ?_)
    unfold Builtin.List.listItems
    refine wpAny_bind (wpAny_seqItems ho hd (wpAny_pure (wpAny_pure (wpAny_bind ?_))))
    refine firsts_go vs (fun u hu => g u (List.mem_cons_of_mem _ hu)) fun l _ => wpAny_pure (q _ fun v r e hv => ?_)
    obtain ⟨a2, xs2, e2, ⟨o2, ho2, _, n2, hd2⟩, hi2⟩ := hv
    cases e
    cases e2
    rw [ho] at ho2
    cases ho2
    rw [hd] at hd2
    cases hd2
    have : xs.toList = [] := by cases h : xs.toList with
      | nil => rfl
      | cons y ys => rw [h] at hi2; cases hi2
    have e0 : xs[0]? = none := by
      have := congrArg (fun l : List Value => l[0]?) this
      simpa using this
    rw [e0]; rfl
theorem kind_one {v : Value} {vs : List Value} (h0 : TS.TupInts s.heap v []) (g : ∀ u ∈ v :: vs, ∃ ns, TS.TupInts s.heap u ns) {Q : SortKind → Shared → Prop} (q : Q oneType' s) : wpAny (model prog w) A (keyKind' (v :: vs).toArray) Q E s := by
  rw [keyKind'_eq, List.mapM_toArray, map_eq_pure_bind]
  refine wpAny_bind (wpAny_bind (firsts_go (v :: vs) g fun l hl => wpAny_pure ?_))
  have e0 := hl v vs rfl h0
  have c1 : l.toArray.all (fun x => x.isSome) = false := by
    rw [List.all_toArray']
    cases l with
    | nil => cases e0
    | cons y l => cases e0; rfl
    rfl
  rw [if_neg (by rw [c1]; decide)]
  have c2 : (l.toArray[0]?.bind id).isSome = false := by
    have : l.toArray[0]? = some none := by simpa using e0
    rw [this]; rfl
  rw [if_neg (by rw [c2]; decide)]
  refine wpAny_bind (show wpAny _ _ (Array.mapM typeOf (v :: vs).toArray >>= fun ts => match ts[0]? with | some t => pure (if (ts.all fun x => x == t) = true then some t else none) | none => pure none) _ _ _ from ?_)
  rw [List.mapM_toArray, map_eq_pure_bind]
  refine wpAny_bind (wpAny_bind (types_go (v :: vs) g (wpAny_pure ?_)))
  have c3 : (List.replicate (v :: vs).length (Value.type "tuple")).toArray.all (fun x => x == Value.type "tuple") = true := by
    rw [List.all_toArray', List.all_eq_true]
    · intro x hx
      rw [List.eq_of_mem_replicate hx]; exact beq_self_eq_true _
    · rfl
  have c4 : (List.replicate (v :: vs).length (Value.type "tuple")).toArray[0]? = some (Value.type "tuple") := by
    rw [List.length_cons, List.replicate_succ]; rfl
  rw [c4]
  dsimp only
  rw [if_pos c3]
  exact wpAny_pure (wpAny_pure q)
theorem rows_cmp1 (hu : A.units < cLine) {vs : List Value} {k : Value → List Int} (hp : ∀ v ∈ vs, TS.TupInts s.heap v (k v)) : SrtO.Cmp prog w A s oneType' (fun p => p.1 ∈ vs) (SrtO.lt2 (ltL k)) := by
  intro p q h1 h2
  show wpAny (model prog w) A (oneLt' true p.1 q.1) (fun r s' => s' = s ∧ r = HT.lexLt (k p.1) (k q.1)) (fun _ _ => False) s
  exact rows_one hu (hp _ h1) (hp _ h2) ⟨rfl, rfl⟩
theorem rows_sortedE (hu : A.in1.in1.units < cLine) {l : Addr} {vs : List Value} {k : Value → List Int} {Q : Value → Shared → Prop} (hl : s.heap.IsList l vs.toArray) (hz : vs.length ≤ sizeLine) (hp : ∀ v ∈ vs, TS.TupInts s.heap v (k v)) (h1 : ∀ v ∈ vs.tail, 1 ≤ (k v).length)
    (h : ∀ (h2 : Heap) (d : Addr) (out : List Value), SrtO.Srtd (ltL k) out → SrtO.Stb (ltL k) out vs → (∀ b o, s.heap.get? b = some o → h2.get? b = some o) → s.heap.objs.size ≤ d → (∃ n, h2.get? d = some (seqObj "list" out.toArray n)) → Q (.ref d) { s with heap := h2 }) :
    wpAny (model prog w) A (call (.builtin "sorted") [.ref l]) Q E s := by
  refine SrtO.sorted_ord (NtL.swo_lexL k) hl hz (fun g2 h₁ a ha kk => ?_) fun out hs hb => ?_
  · have not : ∀ o, h₁.get? a = some o → o.cls ≠ .type "tuple" := fun o e => by
      have e2 : some o = some (seqObj "list" vs.toArray 0) := e.symm.trans ha
      cases e2
      exact fun c => absurd (Value.type.inj c) (by decide)
    have g1 : ∀ v ∈ vs, TS.TupInts h₁ v (k v) := fun v z => (hp v z).keeps fun b o e _ => (kk b o e).2
    match vs, g1, h1, g2 with
    | v :: vs, g1, h1, g2 =>
      by_cases c : k v = []
      · intro h2 keep
        have g : ∀ u ∈ v :: vs, TS.TupInts h2 u (k u) := fun u z => (g1 u z).keeps fun b o e c => keep b o (fun y => by subst y; exact not o e c) e
        refine ⟨oneType', fun Q E hq => ?_, rows_cmp1 hu g⟩
        have g0 := g v List.mem_cons_self
        rw [c] at g0
        exact kind_one (s := { s with heap := h2 }) g0 (fun u hu => ⟨_, g u hu⟩) hq
      · refine rows_able (s := { s with heap := h₁ }) (by omega) (fun u z => ⟨g1 u z, ?_⟩) not
        rcases List.mem_cons.mp z with rfl | z
        · cases e : k u with
          | nil => exact absurd e c
          | cons _ _ => simp
        · exact h1 u z
  · exact h _ _ out hs hb (fun b o e => sortedAll_old e) (Nat.le_succ _) (sortedAll_at s.heap vs out.toArray)
end
/-- sorted(xs), xs a list of rows of numbers, the first one perhaps empty -/
def rSortE (K : PySem.W.Frag) : List V → Hp → VK → Prop := fun vs H Q => ∃ (a : Addr) (xs : List V) (rows : List (List Int)), vs = [V.ref a] ∧ SqL K H a xs ∧ DpAll K H xs (rows.map rowD) ∧ (∀ r ∈ rows.tail, 1 ≤ r.length) ∧
  ∀ (ys : List V) (rows2 : List (List Int)) (p : Addr), DpAll K H ys (rows2.map rowD) → SrtO.Srtd HT.lexLt rows2 → SrtO.Stb HT.lexLt rows2 rows → H p = none → Q (.ref p) (upd H p (.lst ys))
theorem tail_map {α β : Type} (f : α → β) : ∀ l : List α, (l.map f).tail = l.tail.map f
  | [] => rfl
  | _ :: _ => rfl
theorem cr_sortE {X : Cx} (hu : X.A.in1.in1.units < cLine) : CallR X (.builtin "sorted") (rSortE X.K) := by
  intro pins s σ H vs us Q I r h
  obtain ⟨a, xs, rows, rfl, hs, hx, hl, q⟩ := h
  have at_row : ∀ (i : Nat) (x : V), xs[i]? = some x → ∃ (r : List Int) (t : Addr), rows[i]? = some r ∧ x = .ref t ∧ SqT X.K H t (r.map V.int) := fun i x e => by
    obtain ⟨d, hd, hv⟩ := hx.get e
    rw [List.getElem?_map] at hd
    cases er : rows[i]? with
    | none => rw [er] at hd; cases hd
    | some r0 =>
      rw [er] at hd
      cases Option.some.inj hd
      obtain ⟨t, rz, rfl, h1, h2⟩ := hv.tuple
      cases h2.ints_eq
      exact ⟨r0, t, rfl, rfl, h1⟩
  let k : V → List Int := fun x => match x with
    | .ref t => TS.intsOf s.heap (.ref t)
    | _ => []
  have kt : ∀ {t : Addr} {r : List Int}, SqT X.K H t (r.map V.int) → k (.ref t) = r := fun h => (tupI_raw I h).ints
  have lx : xs.length = rows.length := by rw [hx.length, List.length_map]
  have ek : xs.map k = rows := by
    refine List.ext_getElem? fun i => ?_
    rw [List.getElem?_map]
    cases e : xs[i]? with
    | none => rw [List.getElem?_eq_none_iff] at e; exact (List.getElem?_eq_none_iff.mpr (by omega)).symm
    | some x =>
      obtain ⟨r0, t, er, rfl, ht⟩ := at_row i x e
      rw [er]
      show some (k (.ref t)) = some r0
      rw [kt ht]
  have mem_row : ∀ x ∈ xs, ∃ t, x = V.ref t ∧ SqT X.K H t ((k x).map V.int) := fun x m => by
    obtain ⟨i, e⟩ := List.mem_iff_getElem?.mp m
    obtain ⟨r0, t, er, rfl, ht⟩ := at_row i x e
    rw [kt ht]
    exact ⟨t, rfl, ht⟩
  obtain ⟨its, rv, hl2, hz⟩ := I.list hs
  rw [Vals.ref1 r]
  obtain ⟨e1, e2⟩ := bkV_refs rv fun x m => by
    obtain ⟨t, e, _⟩ := mem_row x m
    exact ⟨t, e⟩
  refine rows_sortedE hu (k := fun u => k (bkV u)) hl2.isList (by rw [← rv.length]; exact hz) (fun v hv => ?_) (fun v hv => ?_) fun h2 d out o1 o2 kp hd hn => ?_
  · obtain ⟨t, rfl⟩ := e2 v hv
    obtain ⟨t2, e, ht⟩ := mem_row (.ref t) (by rw [e1]; exact List.mem_map.mpr ⟨_, hv, rfl⟩)
    cases e
    exact tupI_raw I ht
  · refine hl _ ?_
    rw [← ek, tail_map, e1, tail_map, List.map_map]
    exact List.mem_map.mpr ⟨v, hv, rfl⟩
  · have h3 : ∀ u ∈ out, ∃ a, u = Value.ref a := fun u hu => e2 u (o2.perm.mem_iff.mp hu)
    obtain ⟨n, hn⟩ := hn
    have hb : SrtO.Stb (ltL k) (out.map bkV) xs := by
      rw [e1]
      exact SrtO.Stb.map (NtL.swo_lexL k) bkV o2
    have all : ∀ zs : List V, (∀ z ∈ zs, z ∈ xs) → DpAll X.K H zs ((zs.map k).map rowD) := by
      intro zs
      induction zs with
      | nil => intro _; exact .nil
      | cons z zs ih =>
        intro g
        obtain ⟨t, e, ht⟩ := mem_row z (g z List.mem_cons_self)
        refine .cons ?_ (ih fun y m => g y (List.mem_cons_of_mem _ m))
        rw [e] at ht ⊢
        exact .tup ht (DpAll.ints _)
    have st := SrtO.Stb.map (NtL.swo_lexL (fun x : List Int => x)) k (l := out.map bkV) (m := xs) hb
    rw [ek] at st
    refine ⟨.ref d, upd H d (.lst (out.map bkV)), I.laid (t' := s.toks) kp hd ⟨?_, out, n, bkV_vals h3, hn⟩, rfl, q (out.map bkV) ((out.map bkV).map k) d (all _ fun z m => hb.perm.mem_iff.mp m) (SrtO.srtd_map (f := k) (lt := HT.lexLt) (SrtO.srtd_map o1)) st (I.hok.fresh hd)⟩
    rw [hb.len]
    exact hz
end Ts
namespace Ts
open PySem PySem.Spec PyProof.Rows L2 L2H LamX
/-! ## what is heard of the functions of logs -/
/-- what repr says of what is wrong -/
structure ShIs (K : PySem.W.Frag) (u : V) (d : PyData) : Prop where
  dp : ∀ H : Hp, Dp K H u d
  sh : d.showable = true
  nd : d.hasDict = false
  dep : d.depth < 60
  len : d.shown.length ≤ sizeLine
  eq : shV u = d.shown
  ok : PyData.strOk d.shown = true
theorem ShIs.shown {K : PySem.W.Frag} {u : V} {d : PyData} (h : ShIs K u d) (H : Hp) : ShownV K H u (shV u) := ⟨d, h.dp H, h.sh, h.nd, h.dep, h.len, h.eq⟩
/-! ## what the law asks, where lambdas are made -/
def spRightT (T : List (Addr × Str)) : Sp := fun vs H Q _ => ∃ b : Addr, vs = [.ref b] ∧ Bas H b ∧ Tabs T H ∧ ∀ H', Ext2 b H H' → Tabs T H' → Q (.bl true) H'
end Ts
namespace Ts
open PySem PySem.Spec PyProof.Rows L2 L2H LamX
/-- the table of the code of a def that makes lambdas -/
abbrev lamT (PT : Addr) (q : Str) : List (Addr × Str) := [(PT, q ++ ".<locals>." ++ "<lambda>")]
/-! ## the list of what was told, call by call -/
structure Ph (T : List (Addr × Str)) (b lt : Addr) (due : Option (Str × Str)) (H5 Hn : Hp) (xs : List V) (ws : List (Str × Str)) : Prop where
  B : Bas Hn b
  T : Tabs T Hn
  l : Hn lt = some (.lst xs)
  ps : Pairs (hid2 lt Hn) xs ws
  fs : ∀ w ∈ ws, Fits due w
  nb : lt ≠ b
  s : ExtN H5 (hid2 lt Hn)
theorem Ph.x {T : List (Addr × Str)} {b lt : Addr} {due : Option (Str × Str)} {H5 Hn : Hp} {xs : List V} {ws : List (Str × Str)} (h : Ph T b lt due H5 Hn xs ws) : ExtN H5 Hn := h.s.trans (ExtN.of hid2_sub)
theorem Pairs.snoc {H : Hp} : ∀ {xs : List V} {ws : List (Str × Str)} {x : V} {w : Str × Str}, Pairs H xs ws → PairAt H x w → Pairs H (xs ++ [x]) (ws ++ [w])
  | _, _, _, _, .nil, h => .cons h .nil
  | _, _, _, _, .cons g t, h => .cons g (t.snoc h)
theorem Ph.next {T : List (Addr × Str)} {b lt l : Addr} {due : Option (Str × Str)} {H5 Hn H6 H7 : Hp} {xs : List V} {ws : List (Str × Str)} {w : Str × Str} (h : Ph T b lt due H5 Hn xs ws) (x : ExtN Hn H6) (T6 : Tabs T H6) (s7 : Same H6 H7) (F : Fits due w) (g : H7 l = some (.lst [.str w.1, .str w.2])) :
    Ph T b lt due H5 (upd H7 lt (.lst (xs ++ [.ref l]))) (xs ++ [.ref l]) (ws ++ [w]) := by
  have x7 := x.trans (ExtN.of s7)
  have hl : H7 lt = some (.lst xs) := x7 _ _ h.l fun _ z => by cases z
  have nl : l ≠ lt := fun z => by
    subst z
    rw [hl] at g
    have e : xs = [.str w.1, .str w.2] := by injection (Option.some.inj g)
    have hp := h.ps
    rw [e] at hp
    cases hp with
    | cons z _ => obtain ⟨p, e, _⟩ := z; cases e
  have bt : But lt H7 (upd H7 lt (.lst (xs ++ [.ref l]))) := fun a o n e => by rw [upd_ne n]; exact e
  have S : Same (hid2 lt Hn) (hid2 lt (upd H7 lt (.lst (xs ++ [.ref l])))) := (hid2_ext x7).trans (hid2_but bt)
  have B7 := h.B.ext x7
  refine ⟨?_, tabs_lst (T6.ext s7) hl bt, upd_same, (h.ps.mono S).snoc ⟨l, rfl, hid2_of nl (fun _ z => by cases z) (bt _ _ nl g)⟩, fun w' hw => ?_, h.nb, h.s.trans (ExtN.of S)⟩
  · obtain ⟨x, y, z, e⟩ := B7
    exact ⟨x, y, z, bt _ _ h.nb.symm e⟩
  · rcases List.mem_append.mp hw with z | z
    · exact h.fs _ z
    · cases List.mem_singleton.mp z; exact F
end Ts
namespace Ts
open PySem PySem.Spec PyProof.Rows L2 L2H LamX
/-! ## own errors over any built-in base: the class -/
structure OexB (K : PySem.W.Frag) (C : Addr) : Prop where
  bas : ∃ (B newId initId : String) (bmB : List Value), ExcBaseFacts B newId initId bmB ∧ StoreFacts B bmB "object.__setattr__" "object" ∧ PySem.W.excInitIn K C bmB newId = true ∧ PySem.W.excOver K C bmB = true
  dct : PySem.W.hasDictIn K C = true
  sa : PySem.W.findIn K (.ref C) "__setattr__" = some (some (.builtin "object.__setattr__"))
  exC : PySem.W.subIn K (.ref C) (.type "BaseException") = some true
  tyC : PySem.W.typeIn K (.ref C) = some (.type "type")
  kC : PySem.W.keepIn K (.ref C) = true
section
open Builtin Builtin.ObjectAttr PySem.W PySem.HandSPX
variable {prog : Program} {w : World} {A : Around} {E : Value → Shared → Prop} {R : Result → Shared → Prop} {h9 : Heap} {g9 : Array GenState} {d9 : Drawn} {t9 : Nat} {os9 : OsState}
/-- the first field of an exception over any base -/
theorem osa_first {K : W.Frag} {B : String} {bmB : List Value} {fld : Str} {tk : Tok} {val : Value} {e9 C : Addr} {fv : Array Value} (SF : StoreFacts B bmB "object.__setattr__" "object") (X9 : K.In h9)
    (he : h9.get? e9 = some { cls := .ref C, data := .fields fv }) (ov : excOver K C bmB = true) (hh : hasDictIn K C = true) (no : findIn K (.ref C) fld = some none)
    (hq : ∀ k9 tk' x9, (∀ b o, b ≠ e9 → h9.get? b = some o → k9.get? b = some o) → h9.objs.size ≤ x9 → x9 ≠ e9 → k9.get? e9 = some { cls := .ref C, dict := some x9, data := .fields fv } →
      k9.Ns1 x9 (fun y => if y = fld then some val else none) → R (.ok (.ret .none)) ⟨k9, g9, d9, tk', os9⟩) :
    codeAny (model prog w) A (.call (.builtin "object.__setattr__") ⟨[.ref e9, .str fld tk, val], []⟩) R ⟨h9, g9, d9, t9, os9⟩ := by
  have I9 : InstAt h9 e9 { cls := .ref C, data := .fields fv } C none := ⟨he, rfl, rfl, trivial⟩
  have n9 : e9 ≠ h9.objs.size := Nat.ne_of_lt (Heap.lt_size he)
  refine osa_openX SF X9 I9 ov (show takerIn K C fld = some none by unfold takerIn; rw [no]; rfl) fun b => ?_
  show wpAny _ _ (storeInOwnDict (.ref e9) (.ref C) (.str fld tk) fld val b) _ _ _
  obtain ⟨cd9, hc, hd9⟩ := any_some hh
  have L9 : Looks (model prog w) h9 (classData C) cd9 := looks_clsIn X9 hc
  obtain ⟨a1, a2, a3, a4, a5, hd, a6, a7, a8, a10, a11⟩ := cd9
  (try dsimp only at hd9)
  subst hd9
  unfold storeInOwnDict ownDictForStores
  repeat (first | with_reducible refine PySem.HandSPX.store_in_new ?_ ?_ | with_reducible refine wpAny_loadPart_at he ?_ | with_reducible refine L9.at ?_ | wp_step)
  · exact ⟨_, #[], _, (Heap.get?_update_ne _ _ _ _ n9.symm).trans (Heap.get?_push_at rfl rfl), rfl, fun z hz => absurd hz (by simp), fun _ => rfl⟩
  · intro k9 tk' hn9 hs9
    have he1 : (h9.push { cls := .type "dict", data := .dict #[] }).get? e9 = some { cls := .ref C, data := .fields fv } := Heap.get?_push_of_some _ he
    refine hq k9 tk' h9.objs.size (fun b o hb ho => ?_) (Nat.le_refl _) n9.symm ?_ hn9
    · exact (hs9.2 b (Nat.ne_of_lt (Heap.lt_size ho))).trans ((Heap.get?_update_ne _ _ _ _ hb).trans (Heap.get?_push_of_some _ ho))
    · exact (hs9.2 e9 n9).trans (Heap.get?_update_self _ he1 rfl)
end
section
variable {X : Cx} {pins : List (Addr × Obj)} {σ : L2.St} {H : Hp} {s : Shared} {a C : Addr} {fld : Str} {y : V} {u : Value} {Q : Unit → Shared → Prop} {E : Value → Shared → Prop} {A : Around}
theorem ostB_new (T : OexB X.K C) (I : L2.Inv X pins σ H s) (ea : H a = some (exo a C none)) (no : PySem.W.findIn X.K (.ref C) fld = some none) (ry : RelV y u)
    (h : ∀ x9 s', H x9 = none → x9 ≠ a → L2.Inv X pins σ (upd (upd H x9 (exd x9 [(fld, y)])) a (exo a C (some x9))) s' → Q () s') : wpAny (model X.prog X.w) A (setAttr (.ref a) fld u) Q E s := by
  obtain ⟨B, newId, initId, bmB, FB, SF, _, ov⟩ := T.bas
  obtain ⟨t1, h1⟩ := exo_at I.hok ea
  obtain ⟨h9, g9, d9, t9, os9⟩ := s
  refine PySem.W.set_plain I.kIn (od := none) ⟨h1, rfl, rfl, trivial⟩ T.sa ?_
  refine osa_first SF I.kIn h1 ov T.dct no (fun k9 tk' x9 kp xn xne hx9 hn9 => ?_)
  have fr9 : H x9 = none := I.hok.fresh xn
  have old : ∀ {b : Addr} {o : Obj}, h9.get? b = some o → b ≠ x9 := fun q => Nat.ne_of_lt (Nat.lt_of_lt_of_le (Heap.lt_size q) xn)
  have off : ∀ {b : Addr}, H b = none → b ≠ a := fun n z => by rw [z, ea] at n; cases n
  have U9 : Un X.fs [] H (upd (upd H x9 (exd x9 [(fld, y)])) a (exo a C (some x9))) h9 k9 :=
    { keep := fun b o q n _ _ => kp b o (off n) q
      slot := fun b o q n _ _ => ⟨o.slots, kp b o (off n) q⟩
      free := fun b o q n _ => by rw [upd_ne (off n), upd_ne (old q)]; exact n
      there := fun b o q _ => by
        by_cases hb : b = a
        · exact ⟨_, hb ▸ hx9⟩
        · exact ⟨o, kp b o hb q⟩
      tups := fun b xs q => by rw [upd_ne (at_ne ea q exo_tup), upd_ne (ne_of_none q fr9)]; exact q
      frzs := fun b o v q => by rw [upd_ne (at_ne ea q exo_frz), upd_ne (ne_of_none q fr9)]; exact q
      tbls := fun b ps q => ⟨#[], by rw [upd_ne (at_ne ea q exo_tbl), upd_ne (ne_of_none q fr9), q]; simp⟩ }
  refine h x9 _ fr9 xne (I.un (t' := tk') U9 fun b o q => ?_)
  by_cases hb : b = a
  · subst hb
    rw [upd_same] at q; cases q
    exact exo_ok hx9
  rw [upd_ne hb] at q
  by_cases hd : b = x9
  · subst hd
    rw [upd_same] at q; cases q
    exact exd_ok hn9 (relO_put (fs := []) ry fun _ => trivial)
  rw [upd_ne hd] at q
  refine (I.hok b o q).stay (fun c v hc z => kp c v (hc.elim (fun e => e ▸ hb) fun e => at_ne ea e exo_own) z) (fun c hc => ?_) (fun c xs hc => ?_)
  · rw [upd_ne (at_ne ea hc exo_own), upd_ne (ne_of_none hc fr9)]; exact hc
  · rw [upd_ne (at_ne ea hc exo_tup), upd_ne (ne_of_none hc fr9)]; exact hc
end
/-- self.fld = e, the first field -/
def tOstB (K : PySem.W.Frag) (fld : Str) (to te : TE) : TS := fun D σ H => te σ H fun y H1 => to σ H1 fun x H2 => ∃ a C : Addr, x = .ref a ∧ OexB K C ∧ PySem.W.findIn K (.ref C) fld = some none ∧
  H2 a = some (exo a C none) ∧ ∀ dx, H2 dx = none → dx ≠ a → D.nx σ (upd (upd H2 dx (exd dx [(fld, y)])) a (exo a C (some dx)))
section
variable {X : Cx} {o e : Expr} {to te : TE} {fld : Str} {p p' pos : Pos}
theorem ps_ostB (ho : PE X o to) (he : PE X e te) (hs : swapsWith e (some (.Attribute o fld p')) pos.line X.env = pure false := by rfl) : PS X (.Assign [.Attribute o fld p'] e pos) (tOstB X.K fld to te) := by
  refine ⟨fun pins s σ H D I h => ?_⟩
  refine plainObj_wpAny_Assign_Attribute (thn (he.run pins s σ H _ I h) fun v s1 ⟨y, H1, I1, r1, q1⟩ => thn (ho.run pins s1 σ H1 _ I1 q1) fun u s2 ⟨x, H2, I2, r2, a, C, ex, T, no, ea, q⟩ => ?_) hs
  subst ex
  cases (show u = Value.ref a from r2)
  exact ostB_new T I2 ea no r1 fun dx s' n ne J => ⟨σ, _, J, q dx n ne⟩
end
/-- C(e, ..), C an own error over any base, its own __init__ keeping sp -/
theorem pmk_oexB {X : Cx} {e : Expr} {es : List Expr} {ta : TA} {p pos : Pos} {CX : CXT} {x : Str} {C fI : Addr} {k : Nat} {fd : FuncData} {ps : List Str} {sp : Sp} (T : OexB X.K C) (iC : PySem.W.findIn X.K (.ref C) "__init__" = some (some (.ref fI))) (tI : PySem.W.typeIn X.K (.ref fI) = some (.type "function"))
    (F1 : FnOk X.prog X.w X.K X.mg X.base CX k fI fd ps sp) (hr : Room (k + 1) X.A) (hb : L2.Binds X.K fd ps []) (hx : Passes CX X (fun _ _ _ => False)) (hg : Gl X x) (hm : X.mg x = some (.ref C)) (ha : PA X (e :: es) ta)
    (hdb : (x == ("__debug__" : Str)) = false := by decide) (hse : starEach (e :: es) X.env = (false, eval e X.env) :: starEach es X.env := by rfl) (hnp : (backTo pos (starEach es X.env)).any (·.1) = false := by rfl) :
    PMk X (.Call (.Name x p) (e :: es) [] pos) (tMkO C sp [] ta) := by
  intro pins s σ H Q I h
  obtain ⟨B, newId, initId, bmB, FB, SF, ini, _⟩ := T.bas
  refine wpAny_Call_Name_kw (ld_glob I hg hm ?_ hdb)
  refine PySem.W.callWith_K (h₀ := X.base) I.ok.mod.kin T.kC (thn (ha.run pos pins s σ H _ I h) fun us s1 ⟨vs, H1, I1, r1, hz, q1⟩ => ⟨I1.kIn, ?_⟩) hse hnp
  show wpAny _ _ (call (.ref C) us) _ _ _
  obtain ⟨nm, N, qn, bs, bm, hdct, sn, sub, ab, col, dd, k0, k1, k2, k3, k5, hC, hT⟩ := PySem.W.excInit_of I1.kIn ini
  obtain ⟨h9, g9, d9, t9, os9⟩ := s1
  have grow : h9.objs.size ≤ h9.objs.size + 1 := Nat.le_succ _
  have hq := q1 (h9.objs.size + 1) (I1.hok.fresh grow)
  have keep9 : ∀ b o, h9.get? b = some o → ((h9.push (PySem.W.kdv_tup us)).push (PySem.HandSPX.excO C h9.objs.size)).get? b = some o := fun _ _ z => Heap.get?_push_of_some _ (Heap.get?_push_of_some _ z)
  have at9 : ((h9.push (PySem.W.kdv_tup us)).push (PySem.HandSPX.excO C h9.objs.size)).get? (h9.objs.size + 1) = some (PySem.HandSPX.excO C h9.objs.size) := by heap_get
  have I2 : L2.Inv X pins σ (upd H1 (h9.objs.size + 1) (exo (h9.objs.size + 1) C none)) ⟨(h9.push (PySem.W.kdv_tup us)).push (PySem.HandSPX.excO C h9.objs.size), g9, d9, t9, os9⟩ :=
    I1.laid (t' := t9) (a := h9.objs.size + 1) (o := exo (h9.objs.size + 1) C none) (h' := (h9.push (PySem.W.kdv_tup us)).push (PySem.HandSPX.excO C h9.objs.size)) keep9 grow (exo_ok at9)
  have r2 : Vals (V.ref (h9.objs.size + 1) :: (vs ++ [])) (Value.ref (h9.objs.size + 1) :: (us ++ [])) := .cons rfl (r1.append .nil)
  have ln9 : (Value.ref (h9.objs.size + 1) :: us ++ []).length = ps.length := (r2.length.symm.trans (F1.len _ _ _ _ hq))
  have few9 : us.length ≤ sizeLine := by rw [← Paired.length r1, sizeLine_eq]; omega
  have bd9 := hb ⟨(h9.push (PySem.W.kdv_tup us)).push (PySem.HandSPX.excO C h9.objs.size), g9, d9, t9, os9⟩ (Value.ref (h9.objs.size + 1) :: us) I2.kIn ln9
  rw [List.cons_append] at bd9
  refine wpAny_call (PySem.HandSPX.call_own FB hT hC (PySem.W.looks_findIn I1.kIn iC) (fun self => PySem.W.bind_fn I1.kIn self tI) few9
    (codeAny_mono (F1.run _ X.stack _ _ ⟨Value.ref (h9.objs.size + 1) :: us, []⟩ (Value.ref (h9.objs.size + 1) :: (us ++ [])) _ _ (fun _ _ _ => False) (hr.make C us []) (I2.env0.make C us []) bd9 r2 hq) fun r s' z => ?_))
  cases r with
  | error er => exact hx pins σ _ _ er s' I2 z
  | ok fl =>
    cases fl with
    | ret u =>
      obtain ⟨v, H2, o2, b2, un2, hok2, rv, ev, d, fs, ea, ed, hd1, q2⟩ := z
      subst ev
      obtain ⟨k9, g8, d8, t8, os8⟩ := s'
      exact ⟨rv, mk_end (raises_own T.exC T.tyC) I1 grow keep9 un2 hok2 o2 b2 ea ed hd1 q2⟩
    | next => exact z.elim
    | brk => exact z.elim
    | cont => exact z.elim
/-! ## own errors of one field, over any base -/
structure ErrB (P : Program) (w : World) (K : PySem.W.Frag) (mg : Str → Option Value) (base : Heap) (x : Str) (C : Addr) (fld : Str) : Prop where
  oex : OexB K C
  no : PySem.W.findIn K (.ref C) fld = some none
  gl : mg x = some (.ref C)
  ini : ∃ fI fd, PySem.W.findIn K (.ref C) "__init__" = some (some (.ref fI)) ∧ PySem.W.typeIn K (.ref fI) = some (.type "function") ∧ FnOk P w K mg base CX0 1 fI fd ["self", fld] (spErr C fld) ∧ L2.Binds K fd ["self", fld] []
theorem errB_init {P : Program} {w : World} {K : PySem.W.Frag} {mg : Str → Option Value} {base : Heap} {qual fld : Str} {st : Stmt} {f C : Addr} {fd : FuncData} (F : Fun K "__init__" qual st f fd) (S : FnScope ["self", fld] ["self", fld] (defScope st)) (T : OexB K C) (no : PySem.W.findIn K (.ref C) fld = some none)
    (hb : ∀ (cdv : Value) (A : Around) (outer : List Env) (s : Shared) (H : Hp) (E : XK), PSs (cxOf CX0 P w K mg base ["self", fld] qual (defScope st) f cdv A outer s H E).nox (defBody st) (tOstB K fld (tVar 0) (tVar 1))) : FnOk P w K mg base CX0 1 f fd ["self", fld] (spErr C fld) := by
  refine F.ok S (fun vs H Q E h => ?_) (fun cdv A outer s H vs Q E hr h => ?_)
  · obtain ⟨a, v, rfl, _⟩ := h; rfl
  obtain ⟨a, v, rfl, ha, q⟩ := h
  exact ⟨_, hb cdv A outer s H E, _, rfl, _, rfl, a, C, rfl, T, no, ha, fun dx h1 h2 => q dx h1 h2⟩
theorem pmk_errB {X : Cx} {x fld : Str} {C : Addr} {e : Expr} {te : TE} {p pos : Pos} (T : ErrB X.prog X.w X.K X.mg X.base x C fld) (hr : Room 2 X.A) (he : PE X e te) (hg : Gl X x := by rfl) (hdb : (x == ("__debug__" : Str)) = false := by decide)
    (hse : starEach [e] X.env = (false, eval e X.env) :: starEach [] X.env := by rfl) (hpl : (backTo pos (starEach [] X.env)).any (·.1) = false := by rfl) : PMk X (.Call (.Name x p) [e] [] pos) (tMkO C (spErr C fld) [] (tCons te tNil)) := by
  obtain ⟨fI, fd, h1, h2, h3, h4⟩ := T.ini
  exact pmk_oexB (X := X) (p := p) (pos := pos) T.oex h1 h2 h3 hr h4 (fun _ _ _ _ _ _ _ (z : False) => z.elim) hg T.gl (pa_cons he pa_nil hse) hdb hse hpl
end Ts
namespace Ts
open PySem PySem.Spec PyProof.Rows L2 L2H LamX
/-! ## what repr says, of any kind of value that a law hands in -/
/-- data without dicts, or an empty dict -/
inductive ShW (K : PySem.W.Frag) (H : Hp) : V → Str → Prop
  | data {v : V} {d : PyData} : Dp K H v d → d.showable = true → d.hasDict = false → d.depth < 60 → d.shown.length ≤ sizeLine → ShW K H v d.shown
  | emp {a : Addr} : H a = some (.dK []) → ShW K H (.ref a) "{}"
theorem ShW.mono {K : PySem.W.Frag} {H H' : Hp} {v : V} {t : Str} (h : ShW K H v t) (s : Same H H') : ShW K H' v t := by
  cases h with
  | data a b c d e => exact .data (a.mono s) b c d e
  | emp a => exact .emp (s _ _ a)
/-! ## a call that is heard, anew: repr by ShE of what an error keeps, by ShO of what comes back; errors without a field, too -/
/-! ## methods that raise -/
end Ts
namespace Ts
open PySem PySem.Spec PyProof.Rows L2 L2H LamX
/-! ## repr of own objects, alone or in a tuple or list of one -/
def LotR (K : PySem.W.Frag) (C : Addr) : Addr → Hp → Str → Prop := fun a H t => ∃ (n : Nat) (js : List Job), LotAt K C H a n js ∧ n ≤ 1000 ∧ js.length ≤ 20 ∧ t = reprS js.length n
theorem LotR.ins {K : PySem.W.Frag} {C a : Addr} {H : Hp} {t : Str} (h : LotR K C a H t) : ∃ dx fs, H a = some (.ins C dx fs) := by
  obtain ⟨n, js, L, _⟩ := h
  obtain ⟨dx, pn, ps, pt, ha, _⟩ := L.ex
  exact ⟨dx, _, ha⟩
end Ts
namespace Ts
open PySem PySem.Spec PyProof.Rows L2 L2H LamX
/-- data, an empty dict, a lot, or a tuple or a list of one lot -/
inductive ShC (K : PySem.W.Frag) (C : Addr) (H : Hp) : V → Str → Prop
  | w {v : V} {t : Str} : ShW K H v t → ShC K C H v t
  | lot {a : Addr} {t : Str} : LotR K C a H t → ShC K C H (.ref a) t
  | tup {p a : Addr} {t : Str} : H p = some (.tup [.ref a]) → LotR K C a H t → ShC K C H (.ref p) (tupleText [t])
  | lst {p a : Addr} {t : Str} : H p = some (.lst [.ref a]) → LotR K C a H t → ShC K C H (.ref p) (listText [t])
theorem LotR.mono {K : PySem.W.Frag} {C a : Addr} {H H' : Hp} {t : Str} (h : LotR K C a H t) (s : Same H H') : LotR K C a H' t := by
  obtain ⟨n, js, L, h⟩ := h
  exact ⟨n, js, L.mono s, h⟩
theorem LotR.len {K : PySem.W.Frag} {C a : Addr} {H : Hp} {t : Str} (h : LotR K C a H t) : t.length ≤ 40 := by
  obtain ⟨n, js, L, h1, h2, rfl⟩ := h
  have l5 := numS_len (n := js.length) (by omega)
  have l6 := numS_len h1
  unfold reprS
  have l1 : (Str.ofString "Lot of ").length = 7 := by decide
  have l2 : (Str.ofString " works, ").length = 8 := by decide
  have l3 : (Str.ofString " hands").length = 6 := by decide
  rw [strLen_append, strLen_append, strLen_append, strLen_append, l1, l2, l3]
  omega
theorem ShC.mono {K : PySem.W.Frag} {C : Addr} {H H' : Hp} {v : V} {t : Str} (h : ShC K C H v t) (s : Same H H') : ShC K C H' v t := by
  cases h with
  | w a => exact .w (a.mono s)
  | lot a => exact .lot (a.mono s)
  | tup a b => exact .tup (s _ _ a) (b.mono s)
  | lst a b => exact .lst (s _ _ a) (b.mono s)
end Ts
namespace Ts
open PySem PySem.Spec PyProof.Rows L2 L2H LamX
/-! ## any value: data, or an empty dict -/
def AnyV (K : PySem.W.Frag) (H : Hp) (v : V) : Option PyData → Prop
  | some d => Dp K H v d
  | none => ∃ a, v = .ref a ∧ H a = some (.dK [])
theorem AnyV.mono {K : PySem.W.Frag} {H H' : Hp} {v : V} {o : Option PyData} (h : AnyV K H v o) (s : Same H H') : AnyV K H' v o := by
  cases o with
  | none => obtain ⟨a, e, h⟩ := h; exact ⟨a, e, s _ _ h⟩
  | some d => exact (show Dp K H v d from h).mono s
theorem AnyV.ext {K : PySem.W.Frag} {H H' : Hp} {v : V} {o : Option PyData} (h : AnyV K H v o) (s : ExtN H H') : AnyV K H' v o := by
  cases o with
  | none => obtain ⟨a, e, h⟩ := h; exact ⟨a, e, s _ _ h fun _ z => by cases z⟩
  | some d => exact dp_ext s _ _ h
def tyN : Option PyData → String
  | none => "dict"
  | some .none => "NoneType"
  | some (.bool _) => "bool"
  | some (.int _) => "int"
  | some (.str _) => "str"
  | some (.list _) => "list"
  | some (.tuple _) => "tuple"
  | some (.dict _) => "dict"
theorem AnyV.ty {K : PySem.W.Frag} {H : Hp} {v : V} {o : Option PyData} (h : AnyV K H v o) : TyX K H v (.type (tyN o)) := by
  cases o with
  | none => obtain ⟨a, rfl, h⟩ := h; exact .base (.dK h)
  | some d =>
    have h' : Dp K H v d := h
    cases h' with
    | non => exact .base .non
    | bl b => exact .base (.bl b)
    | int i => exact .base (.int i)
    | str x => exact .base (.str x)
    | lst a b => exact SqL.ty a
    | tup a b => exact SqT.ty a
theorem AnyV.kind {K : PySem.W.Frag} {H : Hp} {v : V} {o : Option PyData} (h : AnyV K H v o) : KindV K H v (o.bind kindD) := by
  cases o with
  | none => obtain ⟨a, rfl, h⟩ := h; exact ⟨"dict", by decide, .base (.dK h)⟩
  | some d => exact dp_kind h
theorem tyN_in (o : Option PyData) : tyN o ∈ ["dict", "NoneType", "bool", "int", "str", "list", "tuple"] := by
  match o with
  | none => exact (by decide : "dict" ∈ ["dict", "NoneType", "bool", "int", "str", "list", "tuple"])
  | some .none => exact (by decide : "NoneType" ∈ ["dict", "NoneType", "bool", "int", "str", "list", "tuple"])
  | some (.bool _) => exact (by decide : "bool" ∈ ["dict", "NoneType", "bool", "int", "str", "list", "tuple"])
  | some (.int _) => exact (by decide : "int" ∈ ["dict", "NoneType", "bool", "int", "str", "list", "tuple"])
  | some (.str _) => exact (by decide : "str" ∈ ["dict", "NoneType", "bool", "int", "str", "list", "tuple"])
  | some (.list _) => exact (by decide : "list" ∈ ["dict", "NoneType", "bool", "int", "str", "list", "tuple"])
  | some (.tuple _) => exact (by decide : "tuple" ∈ ["dict", "NoneType", "bool", "int", "str", "list", "tuple"])
  | some (.dict _) => exact (by decide : "dict" ∈ ["dict", "NoneType", "bool", "int", "str", "list", "tuple"])
/-! ## what is a name, what is a share -/
/-- the value is not too long -/
def shortV : Option PyData → Prop
  | some (.str t) => t.length ≤ 100 ∧ PyData.strOk t = true
  | some (.tuple ds) => ds.length ≤ 100
  | _ => True
/-! ## put, given anything -/
end Ts
namespace Ts
open PySem PySem.Spec PyProof.Rows L2 L2H LamX
/-! ## odd values, drawn -/
structure OddV (K : PySem.W.Frag) (H : Hp) (v : V) (o : Option PyData) (sh : Str) : Prop where
  av : AnyV K H v o
  sv : ShW K H v sh
  lv : shortV o
  ok : PyData.strOk sh = true
theorem OddV.mono {K : PySem.W.Frag} {H H' : Hp} {v : V} {o : Option PyData} {sh : Str} (h : OddV K H v o sh) (s : Same H H') : OddV K H' v o sh := ⟨h.av.mono s, h.sv.mono s, h.lv, h.ok⟩
theorem OddV.ext {K : PySem.W.Frag} {H H' : Hp} {v : V} {o : Option PyData} {sh : Str} (h : OddV K H v o sh) (s : ExtN H H') : OddV K H' v o sh := by
  refine ⟨h.av.ext s, ?_, h.lv, h.ok⟩
  cases h.sv with
  | data a b c d e => exact .data (dp_ext s _ _ a) b c d e
  | emp a => exact .emp (s _ _ a fun _ z => by cases z)
theorem OddV.of {K : PySem.W.Frag} {H : Hp} {v : V} {d : PyData} (h : Dp K H v d) (h1 : d.showable = true) (h2 : d.hasDict = false) (h3 : d.depth < 60) (h4 : d.shown.length ≤ sizeLine) (h5 : PyData.strOk d.shown = true) (h6 : shortV (some d)) : OddV K H v (some d) d.shown := ⟨h, .data h h1 h2 h3 h4, h6, h5⟩
theorem OddV.emp {K : PySem.W.Frag} {H : Hp} {a : Addr} (h : H a = some (.dK [])) : OddV K H (.ref a) none "{}" := ⟨⟨a, rfl, h⟩, .emp h, trivial, by decide +kernel⟩
theorem strOk_all {t : Str} (h : PyData.strOk t = true) : ∀ c ∈ t.cps.toList, c < 0x110000 := fun c hc => by
  unfold PyData.strOk at h
  rw [← Array.all_toList] at h
  exact of_decide_eq_true (List.all_eq_true.mp h c hc)
end Ts
namespace Ts
open PySem PySem.Spec PyProof.Rows L2 L2H LamX
/-! ## texts of plain signs are written soundly -/
theorem chars_ok {q c : Nat} (hq : q = 34 ∨ q = 39) (hc : c < 128) : ∀ d ∈ Builtin.Str.reprChar q c, d < 0x110000 := by
  have go : ∀ q ∈ [34, 39], ∀ c : Fin 128, ((Builtin.Str.reprChar q c.val).all fun d => decide (d < 0x110000)) = true := by decide +kernel
  intro d hd
  have hq' : q ∈ [34, 39] := by rcases hq with rfl | rfl <;> decide
  exact of_decide_eq_true (List.all_eq_true.mp (go q hq' ⟨c, hc⟩) d hd)
theorem fold_ok {q : Nat} (hq : q = 34 ∨ q = 39) : ∀ (l : List Nat) (acc : Array Nat), (∀ c ∈ l, c < 128) → (∀ d ∈ acc.toList, d < 0x110000) → ∀ d ∈ (l.foldl (fun out c => out ++ (Builtin.Str.reprChar q c).toArray) acc).toList, d < 0x110000
  | [], acc, _, h => h
  | c :: l, acc, hl, h => by
    refine fold_ok hq l _ (fun x hx => hl x (List.mem_cons_of_mem _ hx)) fun d hd => ?_
    rw [Array.toList_append] at hd
    rcases List.mem_append.mp hd with z | z
    · exact h d z
    · exact chars_ok hq (hl c List.mem_cons_self) d (by simpa using z)
theorem text_ok {x : Str} (h : Plain x) : PyData.strOk (PyData.str x).shown = true := by
  show PyData.strOk (reprText x) = true
  unfold reprText
  have hq : reprQuote x = 34 ∨ reprQuote x = 39 := by
    unfold reprQuote
    split
    · exact .inl rfl
    · exact .inr rfl
  unfold PyData.strOk
  rw [← Array.all_toList, Array.toList_push, ← Array.foldl_toList]
  refine List.all_eq_true.mpr fun d hd => decide_eq_true ?_
  have q0 : reprQuote x < 0x110000 := by rcases hq with e | e <;> rw [e] <;> decide
  rcases List.mem_append.mp hd with z | z
  · refine fold_ok hq x.cps.toList _ (fun c hc => h c hc) (fun d hd => ?_) d z
    have : d = reprQuote x := by simpa using hd
    rw [this]; exact q0
  · rw [List.mem_singleton.mp z]; exact q0
theorem plain_ok {x : Str} (h : Plain x) : PyData.strOk x = true := by
  unfold PyData.strOk
  rw [← Array.all_toList]
  exact List.all_eq_true.mpr fun c hc => decide_eq_true (Nat.lt_trans (h c hc) (by decide))
theorem OddV.str {K : PySem.W.Frag} {H : Hp} {x : Str} (h : Plain x) (hl : x.length ≤ 100) : OddV K H (.str x) (some (.str x)) (PyData.str x).shown := by
  obtain ⟨a, b, c, d⟩ := (nice_str (e := 0) h hl).fits (by decide) (by decide)
  exact OddV.of (.str x) a b c d (text_ok h) ⟨hl, plain_ok h⟩
theorem two_ok {a b : Nat} (ha : a ≤ 16) (hb : b ≤ 32) : PyData.strOk (PyData.tuple [.int (a : Int), .int (b : Int)]).shown = true := by
  have go : ∀ (a : Fin 17) (b : Fin 33), PyData.strOk (PyData.tuple [.int ((a.val : Nat) : Int), .int ((b.val : Nat) : Int)]).shown = true := by decide +kernel
  exact go ⟨a, by omega⟩ ⟨b, by omega⟩
theorem OddV.two {K : PySem.W.Frag} {H : Hp} {q : Addr} {a b : Nat} (h : SqT K H q [.int (a : Int), .int (b : Int)]) (ha : a ≤ 16) (hb : b ≤ 32) : OddV K H (.ref q) (some (partD a b)) (PyData.tuple [.int (a : Int), .int (b : Int)]).shown := by
  obtain ⟨x, y, z, w⟩ := (fine_pair (a := a) (b := b) (by omega) (by omega)).fits (by decide) (by decide)
  exact OddV.of (.tup h (.cons (.int _) (.cons (.int _) .nil))) x y z w (two_ok ha hb) (by show 2 ≤ 100; decide)
/-- values of which each one is odd -/
def OddAll (K : PySem.W.Frag) (H : Hp) (xs : List V) : Prop := ∀ v ∈ xs, ∃ o sh, OddV K H v o sh
theorem OddAll.mono {K : PySem.W.Frag} {H H' : Hp} {xs : List V} (h : OddAll K H xs) (s : Same H H') : OddAll K H' xs := fun v hv => by
  obtain ⟨o, sh, g⟩ := h v hv
  exact ⟨o, sh, g.mono s⟩
theorem OddAll.nil {K : PySem.W.Frag} {H : Hp} : OddAll K H [] := fun v hv => by cases hv
theorem OddAll.cons {K : PySem.W.Frag} {H : Hp} {v : V} {o : Option PyData} {sh : Str} {xs : List V} (h : OddV K H v o sh) (t : OddAll K H xs) : OddAll K H (v :: xs) := fun u hu => by
  rcases List.mem_cons.mp hu with rfl | z
  · exact ⟨o, sh, h⟩
  · exact t u z
/-! ## lots stay but for tables -/
theorem LotAt.ext {K : PySem.W.Frag} {C : Addr} {H H' : Hp} {a : Addr} {n : Nat} {js : List Job} (L : LotAt K C H a n js) (s : ExtN H H') : LotAt K C H' a n js := by
  obtain ⟨dx, pn, ps, pt, h1, ⟨ob, h2, h5⟩, h3, h4⟩ := L.ex
  exact ⟨dx, pn, ps, pt, s _ _ h1 (fun _ z => by cases z), ⟨ob, s _ _ h2 (fun _ z => by cases z), h5⟩, dp_ext s _ _ h3, dp_ext s _ _ h4⟩
theorem Ph.kept {T : List (Addr × Str)} {b lt : Addr} {due : Option (Str × Str)} {H5 Hn : Hp} {xs : List V} {ws : List (Str × Str)} (h : Ph T b lt due H5 Hn xs ws) : Same (hid2 b H5) (hid2 b Hn) := fun a o e => by
  obtain ⟨n, t, e2⟩ := hid2_some (hid2_ext h.s a o e)
  exact hid2_of n t (hid2_sub _ _ e2)
/-! ## what is heard of put -/
def inN (js : List Job) : Option PyData → Bool
  | some (.str t) => decide (t ∈ js.map (·.1))
  | _ => false
end Ts
namespace Ts
open PySem PySem.Spec PyProof.Rows L2 L2H LamX
/-! ## lots and names, given anything -/
abbrev plainT : List String := ["dict", "NoneType", "bool", "int", "str", "list", "tuple"]
/-- no value of these kinds is a lot -/
structure LotNo (K : PySem.W.Frag) (C : Addr) : Prop where
  no : ∀ T ∈ plainT, PySem.W.kitOne K (.type T) (.ref C) = some false
/-- a value that is no lot -/
def NoLot (K : PySem.W.Frag) (H : Hp) (v : V) : Prop := ∃ T, T ∈ plainT ∧ TyX K H v (.type T)
theorem NoLot.mono {K : PySem.W.Frag} {H H' : Hp} {v : V} (h : NoLot K H v) (s : Same H H') : NoLot K H' v := by
  obtain ⟨T, h1, h2⟩ := h
  exact ⟨T, h1, TyX.mono h2 s⟩
theorem NoLot.ext {K : PySem.W.Frag} {H H' : Hp} {v : V} (h : NoLot K H v) (s : ExtN H H') : NoLot K H' v := by
  obtain ⟨T, h1, h2⟩ := h
  exact ⟨T, h1, TyX.ext h2 s⟩
theorem AnyV.noLot {K : PySem.W.Frag} {H : Hp} {v : V} {o : Option PyData} (h : AnyV K H v o) : NoLot K H v := ⟨_, tyN_in o, h.ty⟩
/-- a lot, or none -/
def LotOr (K : PySem.W.Frag) (C : Addr) (H : Hp) (v : V) : Option (Nat × List Job) → Prop
  | some p => ∃ a, v = .ref a ∧ LotAt K C H a p.1 p.2
  | none => NoLot K H v
theorem LotOr.mono {K : PySem.W.Frag} {C : Addr} {H H' : Hp} {v : V} {o : Option (Nat × List Job)} (h : LotOr K C H v o) (s : Same H H') : LotOr K C H' v o := by
  cases o with
  | none => exact NoLot.mono h s
  | some p => obtain ⟨a, e, L⟩ := h; exact ⟨a, e, L.mono s⟩
theorem LotOr.ext {K : PySem.W.Frag} {C : Addr} {H H' : Hp} {v : V} {o : Option (Nat × List Job)} (h : LotOr K C H v o) (s : ExtN H H') : LotOr K C H' v o := by
  cases o with
  | none => exact NoLot.ext h s
  | some p => obtain ⟨a, e, L⟩ := h; exact ⟨a, e, L.ext s⟩
theorem Raise1.mono {C : Addr} {fld : Str} {v : V} {H H' : Hp} {E : XK} (h : Raise1 C fld v H E) (s : Same H H') : Raise1 C fld v H' E := fun H2 d s2 => h H2 d (s.trans s2)
def spCheckLotX (K : PySem.W.Frag) (C CL : Addr) : Sp := fun vs H Q E => ∃ (v : V) (o : Option (Nat × List Job)), vs = [v] ∧ LotOr K C H v o ∧ (o.isSome = true → Q .non H) ∧ (o = none → Raise1 CL "given" v H E)
theorem inRg_is {o : Option Int} {lo hi : Int} (h : inRg o lo hi = true) : ∃ i, o = some i ∧ lo ≤ i ∧ i ≤ hi := by
  cases o with
  | none => cases h
  | some i => exact ⟨i, rfl, of_decide_eq_true h⟩
end Ts
namespace Ts
open PySem PySem.Spec PyProof.Rows L2 L2H LamX
/-! ## what is heard of lots -/
/-! ## things that are no lots -/
structure NoLotV (K : PySem.W.Frag) (C : Addr) (H : Hp) (v : V) (sh : Str) : Prop where
  no : NoLot K H v
  sv : ShC K C H v sh
  ok : PyData.strOk sh = true
theorem ShC.ext {K : PySem.W.Frag} {C : Addr} {H H' : Hp} {v : V} {t : Str} (h : ShC K C H v t) (s : ExtN H H') : ShC K C H' v t := by
  have lx : ∀ {a : Addr} {t : Str}, LotR K C a H t → LotR K C a H' t := fun ⟨n, js, L, z⟩ => ⟨n, js, L.ext s, z⟩
  cases h with
  | w a =>
    cases a with
    | data a b c d e => exact .w (.data (dp_ext s _ _ a) b c d e)
    | emp a => exact .w (.emp (s _ _ a fun _ z => by cases z))
  | lot a => exact .lot (lx a)
  | tup a b => exact .tup (s _ _ a fun _ z => by cases z) (lx b)
  | lst a b => exact .lst (s _ _ a fun _ z => by cases z) (lx b)
theorem NoLotV.mono {K : PySem.W.Frag} {C : Addr} {H H' : Hp} {v : V} {sh : Str} (h : NoLotV K C H v sh) (s : Same H H') : NoLotV K C H' v sh := ⟨h.no.mono s, h.sv.mono s, h.ok⟩
theorem NoLotV.ext {K : PySem.W.Frag} {C : Addr} {H H' : Hp} {v : V} {sh : Str} (h : NoLotV K C H v sh) (s : ExtN H H') : NoLotV K C H' v sh := ⟨h.no.ext s, h.sv.ext s, h.ok⟩
theorem OddV.noLot {K : PySem.W.Frag} {C : Addr} {H : Hp} {v : V} {o : Option PyData} {sh : Str} (h : OddV K H v o sh) : NoLotV K C H v sh := ⟨h.av.noLot, .w h.sv, h.ok⟩
theorem NoLotV.str {K : PySem.W.Frag} {C : Addr} {H : Hp} {x : Str} (h : Plain x) (hl : x.length ≤ 1000) : NoLotV K C H (.str x) (PyData.str x).shown := by
  obtain ⟨a, b, c, d⟩ := (nice_str (e := 0) h hl).fits (by decide) (by decide)
  exact ⟨⟨"str", by decide, .base (.str x)⟩, .w (.data (.str x) a b c d), text_ok h⟩
theorem strOk_app {x y : Str} (h : PyData.strOk x = true) (g : PyData.strOk y = true) : PyData.strOk (x ++ y) = true := by
  unfold PyData.strOk at h g ⊢
  rw [← Array.all_toList] at h g ⊢
  refine List.all_eq_true.mpr fun c hc => ?_
  have hc' : c ∈ (x.cps ++ y.cps).toList := hc
  rw [Array.toList_append] at hc'
  exact (List.mem_append.mp hc').elim (List.all_eq_true.mp h c) (List.all_eq_true.mp g c)
theorem NoLotV.tup {K : PySem.W.Frag} {C : Addr} {H : Hp} {p a : Addr} {n : Nat} {js : List Job} (h : H p = some (.tup [.ref a])) (L : LotAt K C H a n js) (hn : n ≤ 6) (hl : js.length ≤ 6) : NoLotV K C H (.ref p) (tupleText [reprS js.length n]) :=
  ⟨⟨"tuple", by decide, .base (.tup h)⟩, .tup h ⟨n, js, L, by omega, by omega, rfl⟩, by
    show PyData.strOk (("(" : Str) ++ Str.join ", " [reprS js.length n] ++ (",)" : Str)) = true
    exact strOk_app (strOk_app (by decide +kernel) (plain_ok (plain_repr _ _))) (by decide +kernel)⟩
theorem NoLotV.lst {K : PySem.W.Frag} {C : Addr} {H : Hp} {p a : Addr} {n : Nat} {js : List Job} (h : H p = some (.lst [.ref a])) (L : LotAt K C H a n js) (hn : n ≤ 6) (hl : js.length ≤ 6) : NoLotV K C H (.ref p) (listText [reprS js.length n]) :=
  ⟨⟨"list", by decide, .base (.lst h)⟩, .lst h ⟨n, js, L, by omega, by omega, rfl⟩, by
    show PyData.strOk ((("[" : Str) ++ (("" : String) : Str) ++ reprS js.length n) ++ ("]" : Str)) = true
    exact strOk_app (strOk_app (strOk_app (by decide +kernel) (by decide +kernel)) (plain_ok (plain_repr _ _))) (by decide +kernel)⟩
end Ts
namespace Ts
open PySem PySem.Spec PyProof.Rows L2 L2H LamX
/-- values that are no lots -/
def NoLots (K : PySem.W.Frag) (C : Addr) (H : Hp) (xs : List V) : Prop := ∀ v ∈ xs, ∃ sh, NoLotV K C H v sh
theorem NoLots.nil {K : PySem.W.Frag} {C : Addr} {H : Hp} : NoLots K C H [] := fun v hv => by cases hv
theorem NoLots.cons {K : PySem.W.Frag} {C : Addr} {H : Hp} {v : V} {sh : Str} {xs : List V} (h : NoLotV K C H v sh) (t : NoLots K C H xs) : NoLots K C H (v :: xs) := fun u hu => by
  rcases List.mem_cons.mp hu with rfl | z
  · exact ⟨sh, h⟩
  · exact t u z
end Ts
namespace Ts
open PySem PySem.Spec PyProof.Rows L2 L2H LamX
/-! ## the bag that the later laws draw from -/
/-- at b: where draws come from; the seed is not too great -/
def Bag (H : Hp) (b : Addr) : Prop := ∃ x y z : Int, 0 ≤ x ∧ x < 2147483587 ∧ H b = some (.lst [.int x, .int y, .int z])
theorem Bag.bas {H : Hp} {b : Addr} (h : Bag H b) : Bas H b := by
  obtain ⟨x, y, z, _, _, e⟩ := h
  exact ⟨x, y, z, e⟩
theorem Bag.on {H H' : Hp} {b : Addr} (h : Bag H b) (s : Same H H') : Bag H' b := by
  obtain ⟨x, y, z, h1, h2, e⟩ := h
  exact ⟨x, y, z, h1, h2, s _ _ e⟩
theorem Bag.ext {H H' : Hp} {b : Addr} (h : Bag H b) (s : ExtN H H') : Bag H' b := by
  obtain ⟨x, y, z, h1, h2, e⟩ := h
  exact ⟨x, y, z, h1, h2, s _ _ e fun _ q => nomatch q⟩
theorem Bag.off {H : Hp} {b p : Addr} (h : Bag H b) (hp : H p = none) : p ≠ b := h.bas.off hp
/-! ## the greatest common divisor, in so many steps -/
end Ts
namespace Ts
open PySem PySem.Spec PyProof.Rows L2 L2H LamX
/-! ## the sum of a tuple of ints -/
/-! ## certificates: () or not -/
def CertV (K : PySem.W.Frag) (H : Hp) (v : V) : Bool → Prop
  | true => ∃ p, v = .ref p ∧ SqT K H p []
  | false => (∃ p xs, v = .ref p ∧ SqT K H p xs ∧ xs ≠ []) ∨ ∃ T, T ∈ ["dict", "NoneType", "bool", "int", "str", "list"] ∧ TyX K H v (.type T)
theorem CertV.mono {K : PySem.W.Frag} {H H' : Hp} {v : V} {e : Bool} (h : CertV K H v e) (s : Same H H') : CertV K H' v e := by
  cases e with
  | true => obtain ⟨p, h1, h2⟩ := h; exact ⟨p, h1, sameT s h2⟩
  | false =>
    rcases h with ⟨p, xs, h1, h2, h3⟩ | ⟨T, h1, h2⟩
    · exact .inl ⟨p, xs, h1, sameT s h2, h3⟩
    · exact .inr ⟨T, h1, TyX.mono h2 s⟩
/-! ## shares that fit a log -/
/-! ## what the checker answers, for a claim with this word -/
end Ts
namespace Ts
open PySem PySem.Spec PyProof.Rows L2 L2H LamX
/-! ## logs as things -/
theorem CertV.empty {K : PySem.W.Frag} {H : Hp} {c : Addr} (h : SqT K H c []) : CertV K H (.ref c) true := ⟨c, rfl, h⟩
end Ts
namespace Ts
open PySem PySem.Spec PyProof.Rows L2 L2H LamX
/-! ## the later laws' lots -/
def partJ (j : Job) : PyData := partD j.2.1 j.2.2
/-- a work kept at an address, its share at another -/
def Wk (H : Hp) (b : Addr) (t : Addr × Addr × Job) : Prop := t.1 ≠ b ∧ H t.1 = some (.tup [.str t.2.2.1, .ref t.2.1]) ∧ t.2.1 ≠ b ∧ H t.2.1 = some (.tup [.int (t.2.2.2.1 : Int), .int (t.2.2.2.2 : Int)])
/-- tuples off b stay -/
def TupB (b : Addr) (H H' : Hp) : Prop := ∀ a xs, a ≠ b → H a = some (.tup xs) → H' a = some (.tup xs)
theorem Wk.step {H H' : Hp} {b : Addr} {t : Addr × Addr × Job} (h : Wk H b t) (s : TupB b H H') : Wk H' b t := ⟨h.1, s _ _ h.1 h.2.1, h.2.2.1, s _ _ h.2.2.1 h.2.2.2⟩
theorem TupB.of {b : Addr} {H H' : Hp} (s : But b H H') : TupB b H H' := fun _ _ n h => s _ _ n h
theorem TupB.trans {b : Addr} {H H' H'' : Hp} (s : TupB b H H') (t : TupB b H' H'') : TupB b H H'' := fun a xs n h => t a xs n (s a xs n h)
theorem TupB.lst {b c : Addr} {H : Hp} {xs : List V} {o : HO} (h : H c = some (.lst xs)) : TupB b H (upd H c o) := fun a ys _ e => by rw [upd_ne (fun z => by rw [z, h] at e; cases e)]; exact e
theorem TupB.new {b c : Addr} {H : Hp} {o : HO} (h : H c = none) : TupB b H (upd H c o) := fun a ys _ e => same_new h _ _ e
theorem Wk.dp {K : PySem.W.Frag} {H : Hp} {b : Addr} {t : Addr × Addr × Job} (h : Wk H b t) : Dp K (hid b H) (.ref t.1) (jobD t.2.2) :=
  .tup (SqT.of ((hid_ne h.1).trans h.2.1)) (.cons (.str _) (.cons (.tup (SqT.of ((hid_ne h.2.2.1).trans h.2.2.2)) (.cons (.int _) (.cons (.int _) .nil))) .nil))
theorem Wk.all {K : PySem.W.Frag} {H : Hp} {b : Addr} : ∀ {ws : List (Addr × Addr × Job)}, (∀ t ∈ ws, Wk H b t) → DpAll K (hid b H) (ws.map fun t => V.ref t.1) ((ws.map fun t => t.2.2).map jobD)
  | [], _ => .nil
  | t :: ws, h => .cons (h t List.mem_cons_self).dp (Wk.all fun x hx => h x (List.mem_cons_of_mem _ hx))
theorem Wk.parts {K : PySem.W.Frag} {H : Hp} {b : Addr} : ∀ {ws : List (Addr × Addr × Job)}, (∀ t ∈ ws, Wk H b t) → DpAll K H (ws.map fun t => V.ref t.2.1) ((ws.map fun t => t.2.2).map partJ)
  | [], _ => .nil
  | t :: ws, h => .cons (.tup (SqT.of (h t List.mem_cons_self).2.2.2) (.cons (.int _) (.cons (.int _) .nil))) (Wk.parts fun x hx => h x (List.mem_cons_of_mem _ hx))
theorem num_okB {n : Nat} (h : n ≤ 1000) : ((n : Nat) : Int).natAbs.log2 < 1920 := by
  show n.log2 < 1920
  by_cases z : n = 0
  · subst z; decide
  · exact Nat.lt_trans ((Nat.log2_lt z).mpr (show n < 2 ^ 10 by omega)) (by decide)
end Ts
namespace Ts
open PySem PySem.Spec PyProof.Rows L2 L2H LamX
/-! ## xs[k] read where xs[k] += e -/
/-! ## members of a tick -/
theorem sqt_ty37 {K : PySem.W.Frag} {H : Hp} {a : Addr} {xs : List V} (h : SqT K H a xs) : TyX K H (.ref a) (.type "tuple") := by
  rcases h with (h | ⟨o, h⟩) | ⟨o, its, n, e, c, _⟩
  · exact .base (.tup h)
  · exact .fTuple h
  · exact .kTuple e c
/-- a thing that is perhaps a tuple -/
def ThingS (K : PySem.W.Frag) (H : Hp) (v : V) : Option (List (Option Int)) → Prop
  | some os => ∃ (p : Addr) (xs : List V), v = .ref p ∧ SqT K H p xs ∧ xs.length = os.length ∧ ∀ (i : Nat) (x : V) (o : Option Int), xs[i]? = some x → os[i]? = some o → KindV K H x o
  | none => ∃ T, T ∈ ["int", "bool", "str", "NoneType", "list", "dict"] ∧ TyX K H v (.type T)
theorem ThingAt.s {K : PySem.W.Frag} {H : Hp} {v : V} {t : Option (List (Option Int))} (h : ThingAt K H v t) : ThingS K H v t := by
  cases t with
  | none => exact h
  | some os => obtain ⟨p, xs, h1, h2, h3, h4⟩ := h; exact ⟨p, xs, h1, SqT.of h2, h3, h4⟩
theorem ThingS.mono {K : PySem.W.Frag} {H H' : Hp} {v : V} {t : Option (List (Option Int))} (h : ThingS K H v t) (s : Same H H') : ThingS K H' v t := by
  cases t with
  | none => obtain ⟨T, h1, h2⟩ := h; exact ⟨T, h1, TyX.mono h2 s⟩
  | some os => obtain ⟨p, xs, h1, h2, h3, h4⟩ := h; exact ⟨p, xs, h1, sameT s h2, h3, fun i x o a b => (h4 i x o a b).mono s⟩
/-! ## counts -/
def badCo (os : List (Option Int)) (i : Nat) : Option Nat := match os with
  | [] => none
  | o :: r => if i = 60 ∨ inRg o 0 6 = false then some i else badCo r (i + 1)
def wrongC : Option (List (Option Int)) → Option V
  | none => some .non
  | some [] => some .non
  | some (o :: r) => (badCo (o :: r) 0).map fun i => V.int (i : Int)
/-! ## ticks had -/
end Ts
namespace Ts
open PySem PySem.Spec PyProof.Rows L2 L2H LamX
/-! ## zip of a tuple and a list -/
/-! ## a certificate that tells the works of each tick -/
abbrev TabT := Option (List (Option (List (Option Int))))
def TabP (K : PySem.W.Frag) (H : Hp) (v : V) : TabT → Prop
  | some rs => ∃ (p : Addr) (xs : List V), v = .ref p ∧ SqT K H p xs ∧ xs.length = rs.length ∧ ∀ (i : Nat) (x : V) (r : Option (List (Option Int))), xs[i]? = some x → rs[i]? = some r → ThingS K H x r
  | none => ∃ T, T ∈ ["int", "bool", "str", "NoneType", "list", "dict"] ∧ TyX K H v (.type T)
theorem TabP.mono {K : PySem.W.Frag} {H H' : Hp} {v : V} {t : TabT} (h : TabP K H v t) (s : Same H H') : TabP K H' v t := by
  cases t with
  | none => obtain ⟨T, h1, h2⟩ := h; exact ⟨T, h1, TyX.mono h2 s⟩
  | some rs => obtain ⟨p, xs, h1, h2, h3, h4⟩ := h; exact ⟨p, xs, h1, sameT s h2, h3, fun i x o a b => (h4 i x o a b).mono s⟩
/-! ## counts that are valid -/
end Ts
namespace Ts
open PySem PySem.Spec PyProof.Rows L2
theorem hu2 {A : Around} (h : A.units + 64 < cLine) : A.in1.in1.units < cLine := by show A.units + 1 + 1 < cLine; omega
/-! ## who is ahead -/
abbrev handsL (n : Nat) (js : List Job) : List Nat := List.replicate (spanN js) n
def crewRows (cs : List Nat) : List (List Int) := cs.map fun c => (membersN c).map fun m : Nat => (m : Int)
/-! ## what is asked -/
/-! ## rows -/
/-! ## the crews of a choice: only the first may be empty -/
theorem choices_lt {js : List Job} {hs : List Nat} {m a : Nat} (l6 : js.length ≤ 6) : ∀ c ∈ choicesN js hs m a, c < 128 := fun c hc => by
  have h := (crews_in c (List.mem_filter.mp hc).1).2
  have : 2 ^ js.length ≤ 2 ^ 6 := Nat.pow_le_pow_right (by decide) l6
  omega
end Ts
namespace Ts
open PySem PySem.Spec PyProof.Rows L2
/-! ## rounds later -/
/-! ## which rows there are -/
/-! ## lists in their order that have the same rows -/
/-! ## turned about, and one fewer -/
theorem Good.back {d : Nat} {js : List Job} (G : Good d js) : Good d js.reverse :=
  ⟨by rw [List.map_reverse, List.nodup_iff_pairwise_ne, List.pairwise_reverse]; exact G.nd.imp fun {x y} h e => h e.symm, fun j hj => G.tag j (List.mem_reverse.mp hj), fun j hj => G.part j (List.mem_reverse.mp hj)⟩
end Ts
namespace Ts
open PySem PySem.Spec PyProof.Rows L2
/-! ## the draws of the laws of standings, tables, rules .. -/
def spCell (K : PySem.W.Frag) : Sp := fun vs H Q _ => ∃ (a : Addr) (ns : List Int) (i : Nat), vs = [.ref a, .int i] ∧ SqL K H a (ns.map V.int) ∧ ns.length ≤ 63 ∧ i < 1000 ∧ ∀ (x : Int) (H' : Hp), Same H H' → Q (.int x) H'
def spTakeJ (K : PySem.W.Frag) : Sp := fun vs H Q _ => ∃ (b p : Addr) (xs : List V), vs = [.ref b, .ref p] ∧ Bas H b ∧ SqL K (hid b H) p xs ∧ 0 < xs.length ∧ xs.length ≤ 1000 ∧
  ∀ (v : V) (H' : Hp), v ∈ xs → But b H H' → Bas H' b → Q v H'
/-- small rounds -/
def Div12 (js : List Job) : Prop := ∀ j ∈ js, j.2.2 ∣ 12
def spLotJ (K : PySem.W.Frag) : Sp := fun vs H Q _ => ∃ (b : Addr) (m : Nat), vs = [.ref b, .int (m : Int)] ∧ Bas H b ∧ 1 ≤ m ∧ m ≤ 4 ∧
  ∀ (n : Nat) (js : List Job) (p q : Addr) (H' : Hp), 1 ≤ n → n ≤ 6 → 0 < js.length → js.length ≤ m → Good 16 js → Div12 js → But b H H' → Bas H' b → H p = none → H' p = some (.tup [.int (n : Int), .ref q]) → Dp K (hid b H') (.ref q) (jobsD js) → Q (.ref p) H'
def spTextJ (K : PySem.W.Frag) : Sp := fun vs H Q _ => ∃ (p q : Addr) (n : Nat) (js : List Job), vs = [.ref p] ∧ SqT K H p [.int (n : Int), .ref q] ∧ Dp K H (.ref q) (jobsD js) ∧ Good 1000 js ∧ n ≤ 1000 ∧ js.length ≤ 20 ∧ ∀ H', Same H H' → Q (.str (pageS n js)) H'
/-! ## the menus -/
def menuL : List (Nat × Nat) := [(1, 1), (1, 2), (1, 3), (2, 3), (1, 4), (3, 4), (1, 6), (5, 6), (1, 2), (2, 3)]
theorem menu_ok : ∀ q ∈ menuL, GoodPart 16 q.1 q.2 ∧ q.2 ∣ 12 := by
  have go : ∀ q ∈ menuL, (1 ≤ q.1 ∧ q.1 ≤ q.2 ∧ q.2 ≤ 16 ∧ Nat.gcd q.1 q.2 = 1) ∧ q.2 ∣ 12 := by decide
  exact go
def tagsL : List (List Str) := [["a", "b", "c", "d"], ["zoe", "bob", "ann", "cat"], ["hands", "work", "q", "x"]]
theorem tags_ok : ∀ ts ∈ tagsL, ts.length = 4 ∧ ts.Nodup ∧ ∀ t ∈ ts, IsTag t := by
  have go : ∀ ts ∈ tagsL, ts.length = 4 ∧ ts.Nodup ∧ ∀ t ∈ ts, 1 ≤ t.length ∧ t.length ≤ 8 ∧ ∀ c ∈ t.cps.toList, 97 ≤ c ∧ c ≤ 122 := by decide +kernel
  exact go
/-! ## data of tuples and texts alone -/
inductive TupS : PyData → Prop
  | int (i : Int) : TupS (.int i)
  | str (t : Str) : TupS (.str t)
  | tup {ds : List PyData} (h : ∀ d ∈ ds, TupS d) : TupS (.tuple ds)
theorem dp_hideS {K : PySem.W.Frag} {H : Hp} {b : Addr} {l : List V} (hb : H b = some (.lst l)) {d : PyData} (t : TupS d) : ∀ v, Dp K H v d → Dp K (hid b H) v d := by
  induction t with
  | int i => intro v h; cases h.int_eq; exact .int _
  | str i => intro v h; cases h.str_eq; exact .str _
  | tup hs ih =>
    intro v h
    obtain ⟨p, xs, rfl, hS, hA⟩ := h.tuple
    exact .tup (seqT_hide hb hS) (DpAll.imp hA ih)
theorem dpa_butS {K : PySem.W.Frag} {H H' : Hp} {b : Addr} {l : List V} {vs : List V} {ds : List PyData} (hb : H b = some (.lst l)) (bt : But b H H') (t : ∀ d ∈ ds, TupS d) (h : DpAll K H vs ds) : DpAll K H' vs ds :=
  ((DpAll.imp h fun d hd => dp_hideS hb (t d hd)).mono bt.hid).mono hid_sub
theorem tupS_part (e p : Nat) : TupS (partD e p) := .tup fun d hd => by
  rcases List.mem_cons.mp hd with rfl | z
  · exact .int _
  · rcases List.mem_cons.mp z with rfl | z
    · exact .int _
    · cases z
theorem tupS_job (j : Job) : TupS (jobD j) := .tup fun d hd => by
  rcases List.mem_cons.mp hd with rfl | z
  · exact .str _
  · rcases List.mem_cons.mp z with rfl | z
    · exact tupS_part _ _
    · cases z
theorem tupS_jobs {js : List Job} : ∀ d ∈ js.map jobD, TupS d := fun d hd => by
  obtain ⟨j, _, rfl⟩ := List.mem_map.mp hd
  exact tupS_job j
theorem Bas.set_other {H : Hp} {b D : Addr} {o : HO} (h : Bas H b) (n : D ≠ b) : Bas (upd H D o) b := by
  obtain ⟨x, y, z, e⟩ := h
  exact ⟨x, y, z, by rw [upd_ne (Ne.symm n)]; exact e⟩
theorem need_range {js : List Job} (G : Good 16 js) (D : Div12 js) (l0 : 0 < js.length) : 1 ≤ (js.map fun j => 12 * j.2.1 / j.2.2).sum ∧ (js.map fun j => 12 * j.2.1 / j.2.2).sum ≤ 12 * js.length := by
  have each : ∀ j ∈ js, 1 ≤ 12 * j.2.1 / j.2.2 ∧ 12 * j.2.1 / j.2.2 ≤ 12 := fun j hj => by
    obtain ⟨g1, g2, g3, _⟩ := G.part j hj
    have h12 : j.2.2 ≤ 12 := Nat.le_of_dvd (by decide) (D j hj)
    refine ⟨(Nat.le_div_iff_mul_le (by omega)).mpr (by omega), ?_⟩
    have : 12 * j.2.1 / j.2.2 ≤ 12 * j.2.2 / j.2.2 := Nat.div_le_div_right (Nat.mul_le_mul_left _ g2)
    rw [Nat.mul_div_cancel _ (by omega)] at this
    exact this
  have go : ∀ l : List Job, (∀ j ∈ l, 1 ≤ 12 * j.2.1 / j.2.2 ∧ 12 * j.2.1 / j.2.2 ≤ 12) → l.length ≤ (l.map fun j => 12 * j.2.1 / j.2.2).sum ∧ (l.map fun j => 12 * j.2.1 / j.2.2).sum ≤ 12 * l.length := by
    intro l
    induction l with
    | nil => intro _; exact ⟨Nat.le_refl _, Nat.le_refl _⟩
    | cons j l ih =>
      intro h
      obtain ⟨a, b⟩ := ih fun x hx => h x (List.mem_cons_of_mem _ hx)
      obtain ⟨c, d⟩ := h j List.mem_cons_self
      rw [List.map_cons, List.sum_cons, List.length_cons]
      omega
  obtain ⟨a, b⟩ := go js each
  exact ⟨by omega, b⟩
/-! ## so many rounds later -/
end Ts
namespace Ts
open PySem PySem.Spec PyProof.Rows L2
/-- a drawn lot, and the lot of the package that it makes -/
structure Own (K : PySem.W.Frag) (C : Addr) (H : Hp) (b p q x : Addr) (n : Nat) (js : List Job) : Prop where
  B : Bas H b
  e : H p = some (.tup [.int (n : Int), .ref q])
  d : Dp K (hid b H) (.ref q) (jobsD js)
  L : LotAt K C (hid b H) x n js
theorem Own.step {K : PySem.W.Frag} {C : Addr} {H H' : Hp} {b p q x : Addr} {n : Nat} {js : List Job} (o : Own K C H b p q x n js) (bt : But b H H') (B : Bas H' b) : Own K C H' b p q x n js := by
  have np : p ≠ b := by
    obtain ⟨y, z, u, e⟩ := o.B
    intro h
    have h2 := o.e
    rw [h, e] at h2
    cases h2
  exact ⟨B, bt _ _ np o.e, o.d.mono bt.hid, o.L.mono bt.hid⟩
theorem Own.same {K : PySem.W.Frag} {C : Addr} {H H' : Hp} {b p q x : Addr} {n : Nat} {js : List Job} (o : Own K C H b p q x n js) (s : Same H H') : Own K C H' b p q x n js := o.step (But.of_same s) (o.B.on s)
theorem Own.lot {K : PySem.W.Frag} {C : Addr} {H : Hp} {b p q x : Addr} {n : Nat} {js : List Job} (o : Own K C H b p q x n js) : LotAt K C H x n js := o.L.mono hid_sub
theorem tup_off {H : Hp} {b p : Addr} {xs : List V} (h : H p = some (.tup xs)) (B : Bas H b) : p ≠ b := by
  obtain ⟨y, z, u, e⟩ := B
  rintro rfl
  rw [e] at h; cases h
end Ts
namespace Ts
open PySem PySem.Spec PyProof.Rows L2 L2H LamX
/-! ## a value that is a standing -/
def inLH (t : Int) : List Job → List PyData → Bool
  | [], [] => true
  | j :: js, d :: ds => inRg (kindD d) (lowI j.2.1 j.2.2 t) (highI j.2.1 j.2.2 t) && inLH t js ds
  | _, _ => false
def stB (js : List Job) (t : Int) : Option PyData → Bool
  | some (.tuple ds) => inLH t js ds
  | _ => false
/-! ## what refuses -/
/-! ## what is due -/
end Ts
namespace Ts
open PySem PySem.Spec PyProof.Rows L2 L2H LamX
/-! ## data of which the text is sound -/
structure OkF (w e : Nat) (d : PyData) : Prop where
  f : Fine w e d
  ok : PyData.strOk d.shown = true
theorem OkF.mono {w w' e e' : Nat} {d : PyData} (h : OkF w e d) (h1 : w ≤ w') (h2 : e ≤ e') : OkF w' e' d := ⟨h.f.mono h1 h2, h.ok⟩
theorem okf_int {e : Nat} {i : Int} (h0 : -1 ≤ i) (h1 : i < 10 ^ 40) : OkF 140 e (.int i) := by
  by_cases z : i = -1
  · subst z
    exact ⟨⟨by decide +kernel, by decide +kernel, by show (if ((-1 : Int) == 0) = true then 0 else (-1 : Int).natAbs.log2 + 1) ≤ 140; decide +kernel, Nat.zero_le _, rfl⟩, by decide +kernel⟩
  · obtain ⟨n, rfl⟩ := Int.eq_ofNat_of_zero_le (show 0 ≤ i by omega)
    refine ⟨fine_int (by omega) h1, ?_⟩
    have e : (PyData.int ((n : Nat) : Int)).shown = numS n := rfl
    rw [e]
    exact plain_ok (plain_num n)
theorem ok_joinR {S : Str} (hS : PyData.strOk S = true) : ∀ ts : List Str, (∀ t ∈ ts, PyData.strOk t = true) → PyData.strOk (Str.join S ts) = true := fun ts h => by
  unfold PyData.strOk
  rw [← Array.all_toList]
  refine List.all_eq_true.mpr fun c hc => decide_eq_true ?_
  have hc' : c ∈ TL.tl (Str.join S ts) := hc
  rw [TL.tl_join] at hc'
  have sm : ∀ {t : Str}, PyData.strOk t = true → ∀ c ∈ TL.tl t, c < 0x110000 := fun ht c hc => strOk_all ht c hc
  rcases mem_joinL hc' with h2 | ⟨u, hu, h2⟩
  · exact sm hS c h2
  · obtain ⟨t, ht, rfl⟩ := List.mem_map.mp hu
    exact sm (h t ht) c h2
theorem shownAll_ok {w e : Nat} {ds : List PyData} (h : ∀ d ∈ ds, OkF w e d) : ∀ t ∈ PyData.shownAll ds, PyData.strOk t = true := fun t ht => by
  rw [shownAll_eq_map] at ht
  obtain ⟨d, hd, rfl⟩ := List.mem_map.mp ht
  exact (h d hd).ok
theorem okf_tup {w e : Nat} {ds : List PyData} (h : ∀ d ∈ ds, OkF w e d) : OkF ((w + 1) * ds.length) (e + 1) (.tuple ds) := by
  refine ⟨(fine_all fun d hd => (h d hd).f).tup, ?_⟩
  have e : (PyData.tuple ds).shown = tupleText (PyData.shownAll ds) := by simp only [PyData.shown]
  rw [e]
  unfold tupleText
  refine strOk_app (strOk_app (by decide +kernel) (ok_joinR (by decide +kernel) _ (shownAll_ok h))) ?_
  split <;> decide +kernel
theorem OkF.odd {K : PySem.W.Frag} {H : Hp} {v : V} {w e : Nat} {d : PyData} (f : OkF w e d) (h : Dp K H v d) (hw : w ≤ 300000) (he : e < 60) (hs : shortV (some d)) : OddV K H v (some d) d.shown := by
  obtain ⟨a, b, c, g⟩ := f.f.fits hw he
  exact OddV.of h a b c g f.ok hs
theorem okf_ints {l : List Int} (h : ∀ i ∈ l, -1 ≤ i ∧ i < 10 ^ 40) : ∀ d ∈ l.map PyData.int, OkF 140 0 d := fun d hd => by
  obtain ⟨i, hi, rfl⟩ := List.mem_map.mp hd
  exact okf_int (h i hi).1 (h i hi).2
theorem OddV.ints {K : PySem.W.Frag} {H : Hp} {q : Addr} {l : List Int} (h : SqT K H q (l.map V.int)) (hl : l.length ≤ 100) (hr : ∀ i ∈ l, -1 ≤ i ∧ i < 10 ^ 40) : OddV K H (.ref q) (some (rowD l)) (rowD l).shown :=
  (okf_tup (okf_ints hr)).odd (.tup h (.ints l)) (by rw [List.length_map]; omega) (by decide) (show (l.map PyData.int).length ≤ 100 by rw [List.length_map]; exact hl)
/-! ## a row that may be odd, and the law's own look at it -/
/-! ## what is right comes back -/
/-! ## one of two values, the rest once -/
end Ts
namespace Ts
open PySem PySem.Spec PyProof.Rows L2
/-! ## the law's own look at standings: near, more, the sets of hands -/
def plusR (r s : List Int) : List Int := (List.range r.length).map fun k => r.getD k 0 + (if ((k : Int) ∈ s) then 1 else 0)
def subsL : Nat → List (List Int)
  | 0 => [[]]
  | n + 1 => subsL n ++ (subsL n).map (· ++ [(n : Int)])
def setsL (n m : Nat) : List (List Int) := (subsL n).filter fun s => decide (s.length ≤ m)
/-! ## rows that lie as tuples of their own -/
inductive RowT (H : Hp) : List V → List (List Int) → Prop
  | nil : RowT H [] []
  | cons {a : Addr} {r : List Int} {ys : List V} {rows : List (List Int)} (h : H a = some (.tup (r.map V.int))) (t : RowT H ys rows) : RowT H (.ref a :: ys) (r :: rows)
theorem RowT.mono {H H' : Hp} {ys : List V} {rows : List (List Int)} (h : RowT H ys rows) (s : Same H H') : RowT H' ys rows := by
  induction h with
  | nil => exact .nil
  | cons a _ ih => exact .cons (s _ _ a) ih
theorem RowT.append {H : Hp} {ys zs : List V} {rows more : List (List Int)} (h : RowT H ys rows) (g : RowT H zs more) : RowT H (ys ++ zs) (rows ++ more) := by
  induction h with
  | nil => exact g
  | cons a _ ih => exact .cons a ih
theorem RowT.snoc {H : Hp} {ys : List V} {rows : List (List Int)} {a : Addr} {r : List Int} (h : RowT H ys rows) (g : H a = some (.tup (r.map V.int))) : RowT H (ys ++ [.ref a]) (rows ++ [r]) := h.append (.cons g .nil)
theorem RowT.length {H : Hp} {ys : List V} {rows : List (List Int)} (h : RowT H ys rows) : ys.length = rows.length := by
  induction h with
  | nil => rfl
  | cons a _ ih => rw [List.length_cons, List.length_cons, ih]
theorem RowT.get {H : Hp} {ys : List V} {rows : List (List Int)} (h : RowT H ys rows) : ∀ {i : Nat} {y : V}, ys[i]? = some y → ∃ (a : Addr) (r : List Int), y = .ref a ∧ rows[i]? = some r ∧ H a = some (.tup (r.map V.int)) := by
  induction h with
  | nil => intro i y e; simp at e
  | cons a _ ih =>
    intro i y e
    cases i with
    | zero => cases e; exact ⟨_, _, rfl, rfl, a⟩
    | succ i => exact ih (by simpa using e)
theorem RowT.dp {K : PySem.W.Frag} {H : Hp} {ys : List V} {rows : List (List Int)} (h : RowT H ys rows) : DpAll K H ys (rows.map rowD) := by
  induction h with
  | nil => exact .nil
  | cons a _ ih => exact .cons (.tup (SqT.of a) (.ints _)) ih
/-! ## every standing at a moment -/
end Ts
namespace Ts
open PySem PySem.Spec PyProof.Rows L2
/-! ## the law's own living standings, as dicts with the rows as keys -/
def keyR (r : List Int) : List L2.Key := r.map Sum.inl
def rowsK (rows : List (List Int)) : List (List L2.Key × V) := rows.map fun r => (keyR r, .bl true)
/-- what lives k ticks before the end of a round, by the law's own walk -/
def livR (js : List Job) (sets : List (List Int)) : Nat → List (List Int)
  | 0 => rowsR js (spanN js : Int)
  | k + 1 => (rowsR js ((spanN js : Int) - ((k + 1 : Nat) : Int))).filter fun r => sets.any fun s => decide (plusR r s ∈ livR js sets k)
/-- from the first moment of the round -/
def livT (js : List Job) (sets : List (List Int)) : List (List (List Int)) := (List.range (spanN js + 1)).map fun m => livR js sets (spanN js - m)
def livJ (js : List Job) (sets : List (List Int)) : List (List (List Int)) := if livR js sets (spanN js) = [] then List.replicate (spanN js + 1) [] else livT js sets
/-- the dict at a holds the rows -/
def LivAt (H : Hp) (v : V) (rows : List (List Int)) : Prop := ∃ a, v = .ref a ∧ H a = some (.dT (rowsK rows))
inductive LivAll (H : Hp) : List V → List (List (List Int)) → Prop
  | nil : LivAll H [] []
  | cons {v : V} {rows : List (List Int)} {vs : List V} {rs : List (List (List Int))} (h : LivAt H v rows) (t : LivAll H vs rs) : LivAll H (v :: vs) (rows :: rs)
theorem LivAll.mono {H H' : Hp} {vs : List V} {rs : List (List (List Int))} (h : LivAll H vs rs) (s : Same H H') : LivAll H' vs rs := by
  induction h with
  | nil => exact .nil
  | cons a _ ih => obtain ⟨x, e, g⟩ := a; exact .cons ⟨x, e, s _ _ g⟩ ih
/-- pairs (row, True) of a list -/
inductive PairT (H : Hp) : List Addr → List (List L2.Key × Addr × V) → List (List Int) → Prop
  | nil : PairT H [] [] []
  | cons {p a : Addr} {r : List Int} {ps : List Addr} {qs : List (List L2.Key × Addr × V)} {rows : List (List Int)} (h : H p = some (.tup [.ref a, .bl true])) (g : H a = some (.tup (r.map V.int))) (t : PairT H ps qs rows) : PairT H (p :: ps) ((keyR r, a, .bl true) :: qs) (r :: rows)
theorem PairT.mono {H H' : Hp} {ps : List Addr} {qs : List (List L2.Key × Addr × V)} {rows : List (List Int)} (h : PairT H ps qs rows) (s : Same H H') : PairT H' ps qs rows := by
  induction h with
  | nil => exact .nil
  | cons a b _ ih => exact .cons (s _ _ a) (s _ _ b) ih
theorem PairT.snoc {H : Hp} {ps : List Addr} {qs : List (List L2.Key × Addr × V)} {rows : List (List Int)} {p a : Addr} {r : List Int} (h : PairT H ps qs rows) (e : H p = some (.tup [.ref a, .bl true])) (g : H a = some (.tup (r.map V.int))) :
    PairT H (ps ++ [p]) (qs ++ [(keyR r, a, .bl true)]) (rows ++ [r]) := by
  induction h with
  | nil => exact .cons e g .nil
  | cons a b _ ih => exact .cons a b ih
/-- which rows live k ticks before the end, row by row -/
def goB (js : List Job) (sets : List (List Int)) (k : Nat) (r : List Int) : Bool := sets.any fun s => decide (plusR r s ∈ livR js sets k)
theorem livR_succ (js : List Job) (sets : List (List Int)) (k : Nat) : livR js sets (k + 1) = (rowsR js ((spanN js : Int) - ((k + 1 : Nat) : Int))).filter (goB js sets k) := rfl
theorem LivAll.length {H : Hp} {vs : List V} {rs : List (List (List Int))} (h : LivAll H vs rs) : vs.length = rs.length := by
  induction h with
  | nil => rfl
  | cons a _ ih => rw [List.length_cons, List.length_cons, ih]
theorem LivAll.snoc {H : Hp} {vs : List V} {rs : List (List (List Int))} {v : V} {rows : List (List Int)} (h : LivAll H vs rs) (g : LivAt H v rows) : LivAll H (vs ++ [v]) (rs ++ [rows]) := by
  induction h with
  | nil => exact .cons g .nil
  | cons a _ ih => exact .cons a ih
end Ts
namespace Ts
/-! ## crews as rows of truths, the lowest first -/
def numB : List Bool → Nat
  | [] => 0
  | b :: bs => b.toNat + 2 * numB bs
theorem numB_app : ∀ (xs ys : List Bool), numB (xs ++ ys) = numB xs + 2 ^ xs.length * numB ys
  | [], ys => by simp [numB]
  | x :: xs, ys => by
    show x.toNat + 2 * numB (xs ++ ys) = x.toNat + 2 * numB xs + 2 ^ (xs.length + 1) * numB ys
    rw [numB_app xs ys, Nat.pow_succ, Nat.mul_add, Nat.mul_comm (2 ^ xs.length) 2, Nat.mul_assoc]; omega
theorem numB_snoc (xs : List Bool) (b : Bool) : numB (xs ++ [b]) = numB xs + 2 ^ xs.length * b.toNat := by
  rw [numB_app]; simp [numB]
theorem numB_lt : ∀ bs : List Bool, numB bs < 2 ^ bs.length
  | [] => by decide
  | b :: bs => by
    have := numB_lt bs
    show b.toNat + 2 * numB bs < 2 ^ (bs.length + 1)
    have hb : b.toNat ≤ 1 := Bool.toNat_le b
    rw [Nat.pow_succ]; omega
theorem numB_bit : ∀ (bs : List Bool) (i : Nat), (numB bs).testBit i = bs.getD i false
  | [], i => by simp [numB]
  | b :: bs, 0 => by
    show (b.toNat + 2 * numB bs).testBit 0 = b
    rw [Nat.testBit_zero]
    cases b <;> simp <;> omega
  | b :: bs, i + 1 => by
    show (b.toNat + 2 * numB bs).testBit (i + 1) = bs.getD i false
    rw [Nat.testBit_succ, ← numB_bit bs i]
    congr 1
    cases b <;> simp <;> omega
theorem numB_inj {xs ys : List Bool} (hl : xs.length = ys.length) (h : numB xs = numB ys) : xs = ys := by
  refine List.ext_getElem hl fun i h1 h2 => ?_
  have := congrArg (fun n => Nat.testBit n i) h
  simp only [numB_bit] at this
  rwa [List.getD_eq_getElem?_getD, List.getD_eq_getElem?_getD, List.getElem?_eq_getElem h1, List.getElem?_eq_getElem h2] at this
/-- every number below is such a row -/
def bitsN (n a : Nat) : List Bool := (List.range n).map a.testBit
theorem bitsN_len (n a : Nat) : (bitsN n a).length = n := by simp [bitsN]
theorem bitsN_num {n a : Nat} (h : a < 2 ^ n) : numB (bitsN n a) = a := by
  refine Nat.eq_of_testBit_eq fun i => ?_
  rw [numB_bit, List.getD_eq_getElem?_getD]
  unfold bitsN
  rw [List.getElem?_map]
  by_cases hi : i < n
  · rw [List.getElem?_range hi]; rfl
  · rw [List.getElem?_eq_none (by rw [List.length_range]; omega)]
    exact (Nat.testBit_lt_two_pow (Nat.lt_of_lt_of_le h (Nat.pow_le_pow_right (by decide) (by omega)))).symm
theorem numB_mid (xs ys : List Bool) : numB (xs ++ true :: ys) = numB (xs ++ false :: ys) + 2 ^ xs.length := by
  rw [numB_app, numB_app]
  show numB xs + 2 ^ xs.length * (1 + 2 * numB ys) = numB xs + 2 ^ xs.length * (0 + 2 * numB ys) + 2 ^ xs.length
  rw [Nat.mul_add, Nat.mul_add]; omega
/-! ### crews as numbers -/
theorem crew_posL {α : Type} (p : α → Bool) : ∀ (l : List α) (i : Nat), crewN (posL p l i) = 2 ^ i * numB (l.map p)
  | [], i => by simp [posL, crewN, numB]
  | x :: r, i => by
    have ih := crew_posL p r (i + 1)
    unfold posL
    rw [List.map_cons]
    cases hp : p x with
    | true =>
      rw [if_pos rfl]
      show 2 ^ i + crewN (posL p r (i + 1)) = 2 ^ i * (1 + 2 * numB (r.map p))
      rw [ih, Nat.pow_succ, Nat.mul_add, Nat.mul_one, Nat.mul_assoc]
    | false =>
      rw [if_neg (by decide), ih]
      show _ = 2 ^ i * (0 + 2 * numB (r.map p))
      rw [Nat.pow_succ, Nat.zero_add, Nat.mul_assoc]
theorem crew_posL0 {α : Type} (p : α → Bool) (l : List α) : crewN (posL p l 0) = numB (l.map p) := by rw [crew_posL]; simp
/-! ### sets of numbers as a number -/
theorem crew_lt : ∀ (ms : List Nat) (b : Nat), ms.Pairwise (· < ·) → (∀ m ∈ ms, m < b) → crewN ms < 2 ^ b := by
  intro ms
  induction hn : ms.length generalizing ms with
  | zero =>
    intro b _ _
    rw [List.length_eq_zero_iff.mp hn]
    exact Nat.two_pow_pos b
  | succ n ih =>
    intro b hp hb
    have hne : ms ≠ [] := fun e => by rw [e] at hn; cases hn
    obtain ⟨ys, y, rfl⟩ : ∃ ys y, ms = ys ++ [y] := ⟨ms.dropLast, ms.getLast hne, (List.dropLast_concat_getLast hne).symm⟩
    have hl : ys.length = n := by simpa using hn
    obtain ⟨p1, _, p3⟩ := List.pairwise_append.mp hp
    have h1 := ih ys hl y p1 fun m hm => p3 m hm y (by simp)
    have hy := hb y (by simp)
    rw [crew_snoc]
    have : 2 ^ (y + 1) ≤ 2 ^ b := Nat.pow_le_pow_right (by decide) hy
    rw [Nat.pow_succ] at this
    omega
theorem crew_bit : ∀ (ms : List Nat) (a : Nat), ms.Pairwise (· < ·) → (crewN ms).testBit a = decide (a ∈ ms) := by
  intro ms
  induction hn : ms.length generalizing ms with
  | zero =>
    intro a _
    rw [List.length_eq_zero_iff.mp hn]
    simp [crewN]
  | succ n ih =>
    intro a hp
    have hne : ms ≠ [] := fun e => by rw [e] at hn; cases hn
    obtain ⟨ys, y, rfl⟩ : ∃ ys y, ms = ys ++ [y] := ⟨ms.dropLast, ms.getLast hne, (List.dropLast_concat_getLast hne).symm⟩
    have hl : ys.length = n := by simpa using hn
    obtain ⟨p1, _, p3⟩ := List.pairwise_append.mp hp
    have lo : ∀ m ∈ ys, m < y := fun m hm => p3 m hm y (by simp)
    have h1 := crew_lt ys y p1 lo
    have h2 := ih ys hl a p1
    rw [crew_snoc, Nat.add_comm]
    rcases Nat.lt_trichotomy a y with c | c | c
    · rw [Nat.testBit_two_pow_add_gt c, h2]
      exact decide_eq_decide.mpr (by simp; omega)
    · subst c
      rw [Nat.testBit_two_pow_add_eq, Nat.testBit_lt_two_pow h1]
      simp
    · have h3 : 2 ^ y + crewN ys < 2 ^ a := by
        have : 2 ^ (y + 1) ≤ 2 ^ a := Nat.pow_le_pow_right (by decide) c
        rw [Nat.pow_succ] at this
        omega
      rw [Nat.testBit_lt_two_pow h3]
      refine (decide_eq_false fun z => ?_).symm
      rcases List.mem_append.mp z with z | z
      · have := lo a z; omega
      · have : a = y := by simpa using z
        omega
theorem subs_lt (n : Nat) {w : List Nat} (h : w ∈ subsN n) {p : Nat} (hp : p ∈ w) : p < 2 ^ n := (subs_in n w h).2 p hp
theorem subs_asc : ∀ n, ∀ w ∈ subsN n, w.Pairwise (· < ·)
  | 0, w, h => by
    have e : w = [0] := by simpa [subsN] using h
    subst e
    simp
  | n + 1, w, h => by
    rcases List.mem_append.mp h with h | h
    · exact subs_asc n w h
    · obtain ⟨u, hu, rfl⟩ := List.mem_map.mp h
      have ih := subs_asc n u hu
      refine List.pairwise_append.mpr ⟨ih, List.pairwise_map.mpr (ih.imp fun {a b} z => by omega), fun a ha b hb => ?_⟩
      obtain ⟨c, _, rfl⟩ := List.mem_map.mp hb
      have := subs_lt n hu ha
      omega
theorem subs_getD (n c : Nat) (h : c < 2 ^ n) : (subsN n).getD c [] ∈ subsN n := by
  have hl : c < (subsN n).length := by rw [subs_len]; exact h
  rw [List.getD_eq_getElem?_getD, List.getElem?_eq_getElem hl]
  exact List.getElem_mem hl
theorem subs_low {n c : Nat} (h : c < 2 ^ n) : (subsN (n + 1)).getD c [] = (subsN n).getD c [] := by
  rw [subsN, List.getD_eq_getElem?_getD, List.getElem?_append_left (by rw [subs_len]; exact h), ← List.getD_eq_getElem?_getD]
theorem subs_high {n c : Nat} (h : c < 2 ^ n) : (subsN (n + 1)).getD (c + 2 ^ n) [] = (subsN n).getD c [] ++ ((subsN n).getD c []).map (· + 2 ^ n) := by
  have hl : c < (subsN n).length := by rw [subs_len]; exact h
  rw [subsN, List.getD_eq_getElem?_getD, List.getElem?_append_right (by rw [subs_len]; omega), List.getElem?_map, subs_len, Nat.add_sub_cancel, List.getD_eq_getElem?_getD, List.getElem?_eq_getElem hl]; rfl
/-- one crew within another -/
def subB : List Bool → List Bool → Bool
  | [], [] => true
  | c :: cs, p :: ps => (!p || c) && subB cs ps
  | _, _ => false
theorem subB_len : ∀ {cs ps : List Bool}, subB cs ps = true → cs.length = ps.length
  | [], [], _ => rfl
  | c :: cs, p :: ps, h => by
    have := subB_len (Bool.and_eq_true_iff.mp h).2
    simp [this]
  | [], _ :: _, h => by cases h
  | _ :: _, [], h => by cases h
theorem subB_snoc : ∀ {cs ps : List Bool} (c p : Bool), cs.length = ps.length → subB (cs ++ [c]) (ps ++ [p]) = (subB cs ps && (!p || c))
  | [], [], c, p, _ => by simp [subB]
  | d :: cs, q :: ps, c, p, h => by
    show ((!q || d) && subB (cs ++ [c]) (ps ++ [p])) = (((!q || d) && subB cs ps) && (!p || c))
    rw [subB_snoc c p (by simpa using h), Bool.and_assoc]
  | [], _ :: _, _, _, h => by cases h
  | _ :: _, [], _, _, h => by cases h
theorem snoc_of {α : Type} {n : Nat} {l : List α} (h : l.length = n + 1) : ∃ ys y, l = ys ++ [y] ∧ ys.length = n := by
  have hne : l ≠ [] := fun e => by rw [e] at h; cases h
  exact ⟨l.dropLast, l.getLast hne, (List.dropLast_concat_getLast hne).symm, by rw [List.length_dropLast, h]; rfl⟩
theorem subs_mem : ∀ (n : Nat) (cs ps : List Bool), cs.length = n → ps.length = n → (numB ps ∈ (subsN n).getD (numB cs) [] ↔ subB cs ps = true)
  | 0, cs, ps, h1, h2 => by
    rw [List.length_eq_zero_iff.mp h1, List.length_eq_zero_iff.mp h2]
    simp [numB, subsN, subB]
  | n + 1, cs, ps, h1, h2 => by
    obtain ⟨cs, c, rfl, k1⟩ := snoc_of h1
    obtain ⟨ps, p, rfl, k2⟩ := snoc_of h2
    have ih := subs_mem n cs ps k1 k2
    have lc : numB cs < 2 ^ n := by have := numB_lt cs; rwa [k1] at this
    have lp : numB ps < 2 ^ n := by have := numB_lt ps; rwa [k2] at this
    have inn := subs_getD n _ lc
    rw [subB_snoc c p (k1.trans k2.symm), numB_snoc, numB_snoc, k1, k2]
    cases c with
    | false =>
      rw [show numB cs + 2 ^ n * false.toNat = numB cs by simp, subs_low lc]
      cases p with
      | false => rw [show numB ps + 2 ^ n * false.toNat = numB ps by simp, ih]; simp
      | true =>
        rw [show numB ps + 2 ^ n * true.toNat = numB ps + 2 ^ n by simp]
        constructor
        · intro z
          have := subs_lt n inn z
          omega
        · intro z; simp at z
    | true =>
      rw [show numB cs + 2 ^ n * true.toNat = numB cs + 2 ^ n by simp, subs_high lc, List.mem_append]
      cases p with
      | false =>
        rw [show numB ps + 2 ^ n * false.toNat = numB ps by simp, ih]
        constructor
        · rintro (z | z)
          · rw [z]; rfl
          · obtain ⟨u, _, e⟩ := List.mem_map.mp z
            omega
        · intro z; left; simpa using z
      | true =>
        rw [show numB ps + 2 ^ n * true.toNat = numB ps + 2 ^ n by simp]
        constructor
        · rintro (z | z)
          · have := subs_lt n inn z
            omega
          · obtain ⟨u, hu, e⟩ := List.mem_map.mp z
            have : u = numB ps := by omega
            rw [this] at hu
            rw [ih.mp hu]; rfl
        · intro z
          right
          exact List.mem_map.mpr ⟨_, ih.mpr (by simpa using z), rfl⟩
theorem poss_bit {n : Nat} {cs ps : List Bool} (h1 : cs.length = n) (h2 : ps.length = n) : (possN n (numB cs)).testBit (numB ps) = subB cs ps := by
  have lc : numB cs < 2 ^ n := by have := numB_lt cs; rwa [h1] at this
  unfold possN
  rw [crew_bit _ _ (subs_asc n _ (subs_getD n _ lc))]
  have := subs_mem n cs ps h1 h2
  cases e : subB cs ps with
  | true => exact decide_eq_true (this.mpr e)
  | false => exact decide_eq_false fun z => by rw [this.mp z] at e; cases e
theorem poss_big {n : Nat} {c a : Nat} (h : c < 2 ^ n) (ha : (possN n c).testBit a = true) : a < 2 ^ n := by
  unfold possN at ha
  rw [crew_bit _ _ (subs_asc n _ (subs_getD n _ h))] at ha
  exact subs_lt n (subs_getD n _ h) (of_decide_eq_true ha)
theorem full_mem : ∀ (n a : Nat), a ∈ (subsN n).getD (2 ^ n - 1) [] ↔ a < 2 ^ n
  | 0, a => by simp [subsN]; 
  | n + 1, a => by
    have h0 := Nat.two_pow_pos n
    have e : 2 ^ (n + 1) - 1 = (2 ^ n - 1) + 2 ^ n := by rw [Nat.pow_succ]; omega
    have ih := full_mem n
    rw [e, subs_high (by omega), List.mem_append, ih, Nat.pow_succ]
    constructor
    · rintro (z | z)
      · omega
      · obtain ⟨u, hu, rfl⟩ := List.mem_map.mp z
        have := (ih u).mp hu
        omega
    · intro z
      by_cases c : a < 2 ^ n
      · exact .inl c
      · exact .inr (List.mem_map.mpr ⟨a - 2 ^ n, (ih _).mpr (by omega), by omega⟩)
theorem na_bit (n i a : Nat) : (notAheadN n i).testBit a = (decide (a < 2 ^ n) && !a.testBit i) := by
  have h0 := Nat.two_pow_pos n
  unfold notAheadN
  have asc := (subs_asc n _ (subs_getD n (2 ^ n - 1) (by omega))).filter (p := fun a => a / 2 ^ i % 2 == 0)
  rw [crew_bit _ _ asc]
  have : a ∈ ((subsN n).getD (2 ^ n - 1) []).filter (fun a => a / 2 ^ i % 2 == 0) ↔ (a < 2 ^ n ∧ a / 2 ^ i % 2 = 0) := by
    rw [List.mem_filter, full_mem]; simp
  rw [Nat.testBit_eq_decide_div_mod_eq]
  by_cases c : a < 2 ^ n
  · rw [decide_eq_true c]
    by_cases d : a / 2 ^ i % 2 = 0
    · rw [decide_eq_true (this.mpr ⟨c, d⟩)]
      simp [d]
    · rw [decide_eq_false fun z => d (this.mp z).2]
      have : a / 2 ^ i % 2 = 1 := by omega
      simp [this]
  · rw [decide_eq_false c, decide_eq_false fun z => c (this.mp z).1]; rfl
/-! ### one work taken back -/
theorem sub_bit {a i : Nat} (h : 2 ^ i ≤ a) : (a - 2 ^ i).testBit i = !a.testBit i := by
  have e : a = 2 ^ i + (a - 2 ^ i) := by omega
  have := Nat.testBit_two_pow_add_eq (a - 2 ^ i) i
  rw [← e] at this
  rw [this]; simp
theorem step_bit {n grown given idle : Nat} {xs ys : List Bool} {v : Bool} (hn : xs.length + 1 + ys.length = n) :
    (stepN grown xs.length (notAheadN n xs.length) given idle).testBit (numB (xs ++ v :: ys)) =
      if grown.testBit xs.length = true then (given.testBit (numB (xs ++ v :: ys)) || (v && idle.testBit (numB (xs ++ false :: ys)))) else (idle.testBit (numB (xs ++ v :: ys)) || (!v && given.testBit (numB (xs ++ true :: ys)))) := by
  have bitv : ∀ b : Bool, (numB (xs ++ b :: ys)).testBit xs.length = b := fun b => by
    rw [numB_bit, List.getD_eq_getElem?_getD, List.getElem?_append_right (Nat.le_refl _), Nat.sub_self]; rfl
  have big : ∀ b : Bool, numB (xs ++ b :: ys) < 2 ^ n := fun b => by
    have := numB_lt (xs ++ b :: ys)
    rw [List.length_append, List.length_cons] at this
    rwa [show xs.length + (ys.length + 1) = n by omega] at this
  have mid := numB_mid xs ys
  have bf := bitv false
  have gb : grown.testBit xs.length = decide (grown / 2 ^ xs.length % 2 = 1) := Nat.testBit_eq_decide_div_mod_eq
  unfold stepN
  rw [gb]
  by_cases g : grown / 2 ^ xs.length % 2 = 1
  · rw [if_pos g, if_pos (decide_eq_true g), Nat.testBit_or, Nat.testBit_mul_two_pow, Nat.testBit_and, na_bit]
    congr 1
    cases v with
    | true =>
      rw [mid, Nat.add_sub_cancel, decide_eq_true (show 2 ^ xs.length ≤ numB (xs ++ false :: ys) + 2 ^ xs.length by omega), decide_eq_true (big false), bf]
      simp
    | false =>
      by_cases c : 2 ^ xs.length ≤ numB (xs ++ false :: ys)
      · rw [sub_bit c, bf]
        simp
      · rw [decide_eq_false c]; rfl
  · rw [if_neg g, if_neg (fun z => g (of_decide_eq_true z)), Nat.testBit_or, Nat.testBit_and, Nat.testBit_div_two_pow, na_bit, decide_eq_true (big v), bitv v]
    congr 1
    cases v with
    | true => simp
    | false => rw [← mid]; simp
/-! ### all works taken back -/
/-- b: who is ahead behind the tick; a: ahead of it; s: who has a hand; g: whose lower number grows -/
def relB : List Bool → List Bool → List Bool → List Bool → Prop
  | g :: gs, a :: as, s :: ss, b :: bs => b.toNat + g.toNat = a.toNat + s.toNat ∧ relB gs as ss bs
  | [], [], [], [] => True
  | _, _, _, _ => False
def cntB (ss : List Bool) : Nat := (ss.filter id).length
theorem cntB_cons (s : Bool) (ss : List Bool) : cntB (s :: ss) = s.toNat + cntB ss := by
  unfold cntB
  cases s <;> simp <;> omega
theorem relB_len : ∀ {gs as ss bs : List Bool}, relB gs as ss bs → as.length = gs.length ∧ ss.length = gs.length ∧ bs.length = gs.length
  | [], [], [], [], _ => ⟨rfl, rfl, rfl⟩
  | g :: gs, a :: as, s :: ss, b :: bs, h => by
    obtain ⟨h1, h2, h3⟩ := relB_len h.2
    exact ⟨by simp [h1], by simp [h2], by simp [h3]⟩
  | [], [], [], _ :: _, h => h.elim
  | [], [], _ :: _, _, h => h.elim
  | [], _ :: _, _, _, h => h.elim
  | _ :: _, [], _, _, h => h.elim
  | _ :: _, _ :: _, [], _, h => h.elim
  | _ :: _, _ :: _, _ :: _, [], h => h.elim
theorem pair_at (found : List Nat) (f : Nat → Nat → Nat) (f0 : f 0 0 = 0) (k : Nat) : ((pairN found).map fun q => f q.2 q.1).getD k 0 = f (if k = 0 then 0 else found.getD (k - 1) 0) (found.getD k 0) := by
  unfold pairN
  rw [List.getD_eq_getElem?_getD, List.getElem?_map]
  by_cases h : k < found.length + 1
  · have e1 : (found ++ [0])[k]? = some (found.getD k 0) := by
      by_cases c : k < found.length
      · rw [List.getElem?_append_left c, List.getD_eq_getElem?_getD, List.getElem?_eq_getElem c]; rfl
      · have : k = found.length := by omega
        subst this
        rw [List.getElem?_append_right (Nat.le_refl _), List.getD_eq_getElem?_getD, List.getElem?_eq_none (Nat.le_refl _), Nat.sub_self]; rfl
    have e2 : (0 :: found)[k]? = some (if k = 0 then 0 else found.getD (k - 1) 0) := by
      cases k with
      | zero => rfl
      | succ k =>
        rw [if_neg (by omega), List.getElem?_cons_succ, Nat.add_sub_cancel, List.getD_eq_getElem?_getD, List.getElem?_eq_getElem (show k < found.length by omega)]; rfl
    have e3 : ((found ++ [0]).zip (0 :: found))[k]? = some (found.getD k 0, if k = 0 then 0 else found.getD (k - 1) 0) := List.getElem?_zip_eq_some.mpr ⟨e1, e2⟩
    rw [e3]; rfl
  · have e3 : ((found ++ [0]).zip (0 :: found))[k]? = none := List.getElem?_eq_none (by rw [List.length_zip, List.length_append, List.length_cons, List.length_cons]; simp; omega)
    rw [e3]
    show 0 = _
    rw [if_neg (by omega), List.getD_eq_getElem?_getD, List.getD_eq_getElem?_getD, List.getElem?_eq_none (by omega), List.getElem?_eq_none (by omega)]
    exact f0.symm
theorem step_zero (grown i o : Nat) : stepN grown i o 0 0 = 0 := by
  unfold stepN
  split <;> simp
theorem found_bit (n grown : Nat) : ∀ (ys gs xs : List Bool) (found : List Nat) (k : Nat), xs.length + ys.length = n → gs.length = ys.length → (∀ i, i < gs.length → grown.testBit (xs.length + i) = gs.getD i false) →
    (((foundN grown ((List.range' xs.length ys.length).map (notAheadN n)) xs.length found).getD k 0).testBit (numB (xs ++ ys)) = true ↔
      ∃ ss bs, relB gs ys ss bs ∧ cntB ss ≤ k ∧ (found.getD (k - cntB ss) 0).testBit (numB (xs ++ bs)) = true) := by
  intro ys
  induction ys with
  | nil =>
    intro gs xs found k hn hg hb
    have : gs = [] := List.length_eq_zero_iff.mp hg
    subst this
    show (found.getD k 0).testBit (numB (xs ++ [])) = true ↔ _
    constructor
    · intro z; exact ⟨[], [], trivial, Nat.zero_le _, z⟩
    · rintro ⟨ss, bs, r, c, z⟩
      obtain ⟨_, h2, h3⟩ := relB_len r
      have e1 : ss = [] := List.length_eq_zero_iff.mp h2
      have e2 : bs = [] := List.length_eq_zero_iff.mp h3
      subst e1 e2
      exact z
  | cons v ys ih =>
    intro gs xs found k hn hg hb
    cases gs with
    | nil => cases hg
    | cons g gs =>
      have hg0 : grown.testBit xs.length = g := by have := hb 0 (by simp); simpa using this
      have hr : (List.range' xs.length (v :: ys).length).map (notAheadN n) = notAheadN n xs.length :: (List.range' (xs ++ [v]).length ys.length).map (notAheadN n) := by
        rw [List.length_cons, List.range'_succ, List.map_cons, List.length_append]; rfl
      rw [hr]
      show ((foundN grown _ (xs.length + 1) ((pairN found).map fun q => stepN grown xs.length (notAheadN n xs.length) q.2 q.1)).getD k 0).testBit (numB (xs ++ v :: ys)) = true ↔ _
      have h := ih gs (xs ++ [v]) ((pairN found).map fun q => stepN grown xs.length (notAheadN n xs.length) q.2 q.1) k (by rw [List.length_append]; simp at hn ⊢; omega) (by simpa using hg) (fun i hi => by
        have := hb (i + 1) (by simpa using hi)
        rw [List.length_append]
        rw [show xs.length + [v].length + i = xs.length + (i + 1) by simp; omega, this]; rfl)
      rw [List.length_append, show xs.length + [v].length = xs.length + 1 from rfl] at h
      rw [show xs ++ v :: ys = xs ++ [v] ++ ys by simp, List.length_append, show xs.length + [v].length = xs.length + 1 from rfl, h]
      have st : ∀ (bs : List Bool) (j : Nat), bs.length = ys.length → ((((pairN found).map fun q => stepN grown xs.length (notAheadN n xs.length) q.2 q.1).getD j 0).testBit (numB (xs ++ [v] ++ bs)) = true ↔
          ∃ s b : Bool, b.toNat + g.toNat = v.toNat + s.toNat ∧ s.toNat ≤ j ∧ (found.getD (j - s.toNat) 0).testBit (numB (xs ++ b :: bs)) = true) := fun bs j hl => by
        rw [pair_at found (fun x y => stepN grown xs.length (notAheadN n xs.length) x y) (step_zero _ _ _) j, show xs ++ [v] ++ bs = xs ++ v :: bs by simp, step_bit (by simp at hn; omega), hg0]
        cases g with
        | true =>
          rw [if_pos rfl]
          simp only [Bool.or_eq_true, Bool.and_eq_true]
          constructor
          · rintro (z | ⟨rfl, z⟩)
            · by_cases j0 : j = 0
              · rw [if_pos j0] at z; simp at z
              · rw [if_neg j0] at z
                exact ⟨true, v, rfl, by simp; omega, z⟩
            · exact ⟨false, false, by simp, by simp, by simpa using z⟩
          · rintro ⟨s, b, e, c, z⟩
            cases s with
            | true =>
              have : b = v := by cases b <;> cases v <;> simp at e <;> rfl
              subst this
              left
              rw [if_neg (by simp at c; omega)]
              exact z
            | false =>
              have : b = false ∧ v = true := by cases b <;> cases v <;> simp at e <;> exact ⟨rfl, rfl⟩
              obtain ⟨rfl, rfl⟩ := this
              right
              exact ⟨rfl, by simpa using z⟩
        | false =>
          rw [if_neg (by decide)]
          simp only [Bool.or_eq_true, Bool.and_eq_true]
          constructor
          · rintro (z | ⟨hv, z⟩)
            · exact ⟨false, v, rfl, by simp, by simpa using z⟩
            · have : v = false := by simpa using hv
              subst this
              by_cases j0 : j = 0
              · rw [if_pos j0] at z; simp at z
              · rw [if_neg j0] at z
                exact ⟨true, true, rfl, by simp; omega, z⟩
          · rintro ⟨s, b, e, c, z⟩
            cases s with
            | true =>
              have : b = true ∧ v = false := by cases b <;> cases v <;> simp at e <;> exact ⟨rfl, rfl⟩
              obtain ⟨rfl, rfl⟩ := this
              right
              refine ⟨rfl, ?_⟩
              rw [if_neg (by simp at c; omega)]
              exact z
            | false =>
              have : b = v := by cases b <;> cases v <;> simp at e <;> rfl
              subst this
              left
              simpa using z
      constructor
      · rintro ⟨ss, bs, r, c, z⟩
        have hl : bs.length = ys.length := by rw [(relB_len r).2.2, ← (relB_len r).1]
        obtain ⟨s, b, e, c2, z2⟩ := (st bs _ hl).mp z
        refine ⟨s :: ss, b :: bs, ⟨e, r⟩, by rw [cntB_cons]; omega, ?_⟩
        rw [cntB_cons, show k - (s.toNat + cntB ss) = k - cntB ss - s.toNat by omega]
        exact z2
      · rintro ⟨ss, bs, r, c, z⟩
        cases ss with
        | nil => exact r.elim
        | cons s ss =>
          cases bs with
          | nil => exact r.elim
          | cons b bs =>
            rw [cntB_cons] at c z
            have hl : bs.length = ys.length := by rw [(relB_len r.2).2.2, ← (relB_len r.2).1]
            refine ⟨ss, bs, r.2, by omega, (st bs _ hl).mpr ⟨s, b, r.1, by omega, ?_⟩⟩
            rw [show k - cntB ss - s.toNat = k - (s.toNat + cntB ss) by omega]
            exact z
theorem or_bit (a : Nat) : ∀ (l : List Nat) (x : Nat), (l.foldl (· ||| ·) x).testBit a = (x.testBit a || l.any fun y => y.testBit a)
  | [], x => by simp
  | y :: l, x => by rw [List.foldl_cons, or_bit a l, Nat.testBit_or, List.any_cons, Bool.or_assoc]
/-- who can have been ahead: some hands, no more than most, lead to one of those behind -/
theorem before_bit {n after grown most : Nat} {as gs : List Bool} (ha : as.length = n) (hg : gs.length = n) (hb : grown = numB gs) :
    (beforeN after grown ((List.range n).map (notAheadN n)) most).testBit (numB as) = true ↔ ∃ ss bs, relB gs as ss bs ∧ cntB ss ≤ most ∧ after.testBit (numB bs) = true := by
  have key : ∀ k, ((foundN grown ((List.range n).map (notAheadN n)) 0 [after]).getD k 0).testBit (numB as) = true ↔ ∃ ss bs, relB gs as ss bs ∧ cntB ss = k ∧ after.testBit (numB bs) = true := fun k => by
    have h := found_bit n grown as gs [] [after] k (by simpa using ha) (hg.trans ha.symm) (fun i hi => by rw [hb, numB_bit]; simp)
    rw [ha] at h
    have er : List.range' ([] : List Bool).length n = List.range n := by rw [List.range_eq_range']; rfl
    rw [er] at h
    show _ ↔ _
    rw [show ([] : List Bool) ++ as = as from rfl, show ([] : List Bool).length = 0 from rfl] at h
    rw [h]
    constructor
    · rintro ⟨ss, bs, r, c, z⟩
      refine ⟨ss, bs, r, ?_, ?_⟩
      · by_cases e : k - cntB ss = 0
        · omega
        · rw [List.getD_eq_getElem?_getD, List.getElem?_eq_none (by simp; omega)] at z
          simp at z
      · by_cases e : k - cntB ss = 0
        · rw [e] at z; exact z
        · rw [List.getD_eq_getElem?_getD, List.getElem?_eq_none (by simp; omega)] at z
          simp at z
    · rintro ⟨ss, bs, r, c, z⟩
      refine ⟨ss, bs, r, by omega, ?_⟩
      rw [c, Nat.sub_self]; exact z
  unfold beforeN
  rw [or_bit]
  simp only [Nat.zero_testBit, Bool.false_or, List.any_eq_true]
  constructor
  · rintro ⟨x, hx, z⟩
    obtain ⟨k, hk, e⟩ := List.getElem_of_mem hx
    rw [List.length_take] at hk
    have : ((foundN grown ((List.range n).map (notAheadN n)) 0 [after]).getD k 0) = x := by
      rw [List.getElem_take] at e
      rw [List.getD_eq_getElem?_getD, List.getElem?_eq_getElem (by omega), e]; rfl
    rw [← this] at z
    obtain ⟨ss, bs, r, c, q⟩ := (key k).mp z
    exact ⟨ss, bs, r, by omega, q⟩
  · rintro ⟨ss, bs, r, c, q⟩
    have z := (key (cntB ss)).mpr ⟨ss, bs, r, rfl, q⟩
    have hl : cntB ss < (foundN grown ((List.range n).map (notAheadN n)) 0 [after]).length := by
      refine Classical.byContradiction fun no => ?_
      rw [List.getD_eq_getElem?_getD, List.getElem?_eq_none (by omega)] at z
      simp at z
    rw [List.getD_eq_getElem?_getD, List.getElem?_eq_getElem hl] at z
    refine ⟨_, ?_, z⟩
    exact List.mem_take_iff_getElem.mpr ⟨cntB ss, by omega, rfl⟩
end Ts
namespace Ts
open PySem PySem.Spec PyProof.Rows L2
/-! ## standings as rows of truths: who is ahead -/
def rowB : List Job → Int → List Bool → List Int
  | j :: js, t, b :: bs => (lowI j.2.1 j.2.2 t + (b.toNat : Int)) :: rowB js t bs
  | _, _, _ => []
/-- who has two numbers -/
def dbB (js : List Job) (t : Int) : List Bool := js.map fun j => decide (lowI j.2.1 j.2.2 t < highI j.2.1 j.2.2 t)
/-- whose lower number grows -/
def grB (js : List Job) (t : Int) : List Bool := js.map fun j => decide (lowI j.2.1 j.2.2 t < lowI j.2.1 j.2.2 (t + 1))
theorem rowB_len : ∀ {js : List Job} {t : Int} {bs : List Bool}, bs.length = js.length → (rowB js t bs).length = js.length
  | [], _, [], _ => rfl
  | j :: js, t, b :: bs, h => by
    show (rowB js t bs).length + 1 = js.length + 1
    rw [rowB_len (by simpa using h)]
  | [], _, _ :: _, h => by cases h
  | _ :: _, _, [], h => by cases h
theorem kept_bit {e p : Nat} {t x : Int} (hp : 0 < p) : x ∈ keptL e p t ↔ ∃ b : Bool, (!b || decide (lowI e p t < highI e p t)) = true ∧ x = lowI e p t + (b.toNat : Int) := by
  have hh := high_eq (e := e) (t := t) hp
  unfold keptL
  by_cases c : t * (e : Int) % (p : Int) = 0
  · rw [if_pos c] at hh ⊢
    rw [hh]
    constructor
    · intro z
      exact ⟨false, rfl, by simpa using z⟩
    · rintro ⟨b, h, rfl⟩
      cases b with
      | false => simp
      | true => simp at h
  · rw [if_neg c] at hh ⊢
    rw [hh]
    constructor
    · intro z
      have : x = lowI e p t ∨ x = lowI e p t + 1 := by simpa using z
      rcases this with z | z
      · exact ⟨false, rfl, by simpa using z⟩
      · exact ⟨true, by simp; omega, by simpa using z⟩
    · rintro ⟨b, h, rfl⟩
      cases b <;> simp
def inP : List Int → List (List Int) → Prop
  | x :: s, o :: os => x ∈ o ∧ inP s os
  | [], [] => True
  | _, _ => False
theorem picks_in : ∀ (os : List (List Int)) (rows : List (List Int)) (r : List Int), r ∈ os.foldl growR rows ↔ ∃ r0 s, r0 ∈ rows ∧ r = r0 ++ s ∧ inP s os
  | [], rows, r => by
    constructor
    · intro h; exact ⟨r, [], h, by simp, trivial⟩
    · rintro ⟨r0, s, h, rfl, g⟩
      cases s with
      | nil => simpa using h
      | cons _ _ => exact g.elim
  | o :: os, rows, r => by
    rw [List.foldl_cons, picks_in os]
    constructor
    · rintro ⟨r0, s, h, rfl, g⟩
      unfold growR at h
      obtain ⟨r1, h1, h2⟩ := List.mem_flatMap.mp h
      obtain ⟨m, hm, rfl⟩ := List.mem_map.mp h2
      exact ⟨r1, m :: s, h1, by simp, hm, g⟩
    · rintro ⟨r0, s, h, rfl, g⟩
      cases s with
      | nil => exact g.elim
      | cons m s =>
        refine ⟨r0 ++ [m], s, ?_, by simp, g.2⟩
        unfold growR
        exact List.mem_flatMap.mpr ⟨r0, h, List.mem_map.mpr ⟨m, g.1, rfl⟩⟩
theorem opts_in (t : Int) : ∀ (js : List Job) (r : List Int), (∀ j ∈ js, 0 < j.2.2) → (inP r (optsR js t) ↔ ∃ bs, subB (dbB js t) bs = true ∧ r = rowB js t bs)
  | [], r, _ => by
    cases r with
    | nil => exact ⟨fun _ => ⟨[], rfl, rfl⟩, fun _ => trivial⟩
    | cons x r =>
      refine ⟨fun h => h.elim, ?_⟩
      rintro ⟨bs, _, h⟩
      cases h
  | j :: js, r, hp => by
    have ih := fun r => opts_in t js r fun j hj => hp j (List.mem_cons_of_mem _ hj)
    have hj := hp j List.mem_cons_self
    cases r with
    | nil =>
      refine ⟨fun h => h.elim, ?_⟩
      rintro ⟨bs, h1, h⟩
      cases bs with
      | nil => cases h1
      | cons b bs => cases h
    | cons x r =>
      show (x ∈ keptL j.2.1 j.2.2 t ∧ inP r (optsR js t)) ↔ _
      rw [kept_bit hj, ih r]
      constructor
      · rintro ⟨⟨b, h1, rfl⟩, bs, h2, rfl⟩
        exact ⟨b :: bs, Bool.and_eq_true_iff.mpr ⟨h1, h2⟩, rfl⟩
      · rintro ⟨bs, h1, h⟩
        cases bs with
        | nil => cases h1
        | cons b bs =>
          obtain ⟨h2, h3⟩ := Bool.and_eq_true_iff.mp h1
          have h' : x :: r = (lowI j.2.1 j.2.2 t + (b.toNat : Int)) :: rowB js t bs := h
          obtain ⟨e1, e2⟩ := List.cons.inj h'
          exact ⟨⟨b, h2, e1⟩, bs, h3, e2⟩
theorem good_pos {js : List Job} (G : Good 16 js) : ∀ j ∈ js, 0 < j.2.2 := fun j hj => by
  obtain ⟨h1, h2, _⟩ := G.part j hj
  omega
theorem rows_bits {js : List Job} {t : Int} {r : List Int} (G : Good 16 js) : r ∈ rowsR js t ↔ ∃ bs, subB (dbB js t) bs = true ∧ r = rowB js t bs := by
  unfold rowsR picksR
  rw [picks_in, ← opts_in t js r (good_pos G)]
  constructor
  · rintro ⟨r0, s, h, rfl, g⟩
    have : r0 = [] := by simpa using h
    subst this
    simpa using g
  · intro g
    exact ⟨[], r, by simp, rfl, g⟩
theorem dbB_len (js : List Job) (t : Int) : (dbB js t).length = js.length := List.length_map _
theorem grB_len (js : List Job) (t : Int) : (grB js t).length = js.length := List.length_map _
theorem doub_B (js : List Job) (t : Nat) : doubN js t = numB (dbB js (t : Int)) := crew_posL0 _ _
theorem grow_B (js : List Job) (t : Nat) : growN js t = numB (grB js (t : Int)) := by
  unfold growN grownL
  rw [crew_posL0]
  congr 1
  unfold lowsR grB
  rw [List.zip_map', List.map_map]
  rfl
/-! ## hands as rows of truths -/
def addB : List Int → List Bool → List Int
  | x :: r, s :: ss => (x + (s.toNat : Int)) :: addB r ss
  | _, _ => []
def sB (n : Nat) (s : List Int) : List Bool := (List.range n).map fun k : Nat => decide ((k : Int) ∈ s)
theorem sB_len (n : Nat) (s : List Int) : (sB n s).length = n := by simp [sB]
theorem addB_get : ∀ (r : List Int) (ss : List Bool), r.length = ss.length → (addB r ss).length = r.length ∧ ∀ k, k < r.length → (addB r ss).getD k 0 = r.getD k 0 + ((ss.getD k false).toNat : Int)
  | [], [], _ => ⟨rfl, fun k h => by simp at h⟩
  | x :: r, s :: ss, h => by
    obtain ⟨h1, h2⟩ := addB_get r ss (by simpa using h)
    refine ⟨by show (addB r ss).length + 1 = r.length + 1; rw [h1], fun k hk => ?_⟩
    cases k with
    | zero => rfl
    | succ k => exact h2 k (by simpa using hk)
  | [], _ :: _, h => by cases h
  | _ :: _, [], h => by cases h
theorem plus_B (r s : List Int) : plusR r s = addB r (sB r.length s) := by
  obtain ⟨h1, h2⟩ := addB_get r (sB r.length s) (sB_len _ _).symm
  refine List.ext_getElem (by rw [h1]; simp [plusR]) fun k g1 g2 => ?_
  have hk : k < r.length := by rw [h1] at g2; exact g2
  have := h2 k hk
  rw [List.getD_eq_getElem?_getD, List.getElem?_eq_getElem g2] at this
  show _ = _
  rw [show (addB r (sB r.length s))[k] = (some (addB r (sB r.length s))[k]).getD 0 from rfl, this]
  have e : (sB r.length s).getD k false = decide ((k : Int) ∈ s) := by
    rw [List.getD_eq_getElem?_getD]
    unfold sB
    rw [List.getElem?_map, List.getElem?_range hk]; rfl
  have e2 : (plusR r s)[k] = r.getD k 0 + (if ((k : Int) ∈ s) then 1 else 0) := by simp only [plusR, List.getElem_map, List.getElem_range]
  rw [e, e2]
  congr 1
  by_cases c : (k : Int) ∈ s
  · rw [if_pos c, decide_eq_true c]; rfl
  · rw [if_neg c, decide_eq_false c]; rfl
theorem low_grows {e p : Nat} {t : Int} (hp : 0 < p) (he : e ≤ p) : lowI e p (t + 1) = lowI e p t + ((decide (lowI e p t < lowI e p (t + 1))).toNat : Int) := by
  have hp : (0 : Int) < p := by omega
  have h1 : lowI e p t ≤ lowI e p (t + 1) := by
    unfold lowI
    refine Int.ediv_le_ediv hp ?_
    rw [Int.add_mul]; omega
  have h2 : lowI e p (t + 1) ≤ lowI e p t + 1 := by
    unfold lowI
    rw [← Int.add_ediv_of_dvd_right (Int.dvd_refl _) |> fun z => (show (t * (e : Int) + (p : Int)) / (p : Int) = t * (e : Int) / (p : Int) + 1 by rw [z, Int.ediv_self (by omega)])]
    refine Int.ediv_le_ediv hp ?_
    rw [Int.add_mul]; omega
  by_cases c : lowI e p t < lowI e p (t + 1)
  · rw [decide_eq_true c]; simp; omega
  · rw [decide_eq_false c]; simp; omega
theorem good_le {js : List Job} (G : Good 16 js) : ∀ j ∈ js, j.2.1 ≤ j.2.2 := fun j hj => by
  obtain ⟨h1, h2, _⟩ := G.part j hj
  omega
theorem add_rel {t : Int} : ∀ {js : List Job} {as ss bs : List Bool}, (∀ j ∈ js, 0 < j.2.2) → (∀ j ∈ js, j.2.1 ≤ j.2.2) → as.length = js.length → ss.length = js.length → bs.length = js.length →
    (addB (rowB js t as) ss = rowB js (t + 1) bs ↔ relB (grB js t) as ss bs)
  | [], [], [], [], _, _, _, _, _ => ⟨fun _ => trivial, fun _ => rfl⟩
  | j :: js, a :: as, s :: ss, b :: bs, hp, he, h1, h2, h3 => by
    have ih := add_rel (t := t) (js := js) (as := as) (ss := ss) (bs := bs) (fun j hj => hp j (List.mem_cons_of_mem _ hj)) (fun j hj => he j (List.mem_cons_of_mem _ hj)) (by simpa using h1) (by simpa using h2) (by simpa using h3)
    have lg := low_grows (t := t) (hp j List.mem_cons_self) (he j List.mem_cons_self)
    show (lowI j.2.1 j.2.2 t + (a.toNat : Int) + (s.toNat : Int)) :: addB (rowB js t as) ss = (lowI j.2.1 j.2.2 (t + 1) + (b.toNat : Int)) :: rowB js (t + 1) bs ↔ (b.toNat + (decide (lowI j.2.1 j.2.2 t < lowI j.2.1 j.2.2 (t + 1))).toNat = a.toNat + s.toNat ∧ relB (grB js t) as ss bs)
    rw [List.cons.injEq, ih]
    generalize (decide (lowI j.2.1 j.2.2 t < lowI j.2.1 j.2.2 (t + 1))).toNat = g at *
    refine and_congr_left fun _ => ?_
    omega
  | [], _ :: _, _, _, _, _, h, _, _ => by cases h
  | [], [], _ :: _, _, _, _, _, h, _ => by cases h
  | [], [], [], _ :: _, _, _, _, _, h => by cases h
  | _ :: _, [], _, _, _, _, h, _, _ => by cases h
  | _ :: _, _ :: _, [], _, _, _, _, h, _ => by cases h
  | _ :: _, _ :: _, _ :: _, [], _, _, _, _, h => by cases h
/-! ## the sets -/
def posI (ss : List Bool) : List Int := (posL id ss 0).map fun m : Nat => (m : Int)
theorem posI_snoc (ss : List Bool) (b : Bool) : posI (ss ++ [b]) = posI ss ++ if b = true then [(ss.length : Int)] else [] := by
  unfold posI
  rw [posL_snoc, List.map_append, Nat.zero_add]
  cases b <;> rfl
theorem posI_mem : ∀ (ss : List Bool) (k : Int), k ∈ posI ss ↔ ∃ i : Nat, k = (i : Int) ∧ i < ss.length ∧ ss.getD i false = true := by
  intro ss
  induction hn : ss.length generalizing ss with
  | zero =>
    intro k
    have : ss = [] := List.length_eq_zero_iff.mp hn
    subst this
    constructor
    · intro h; cases h
    · rintro ⟨i, _, h, _⟩; omega
  | succ n ih =>
    intro k
    obtain ⟨ss, b, rfl, hl⟩ := snoc_of hn
    have ih := ih ss hl k
    rw [posI_snoc, List.mem_append, ih, hl]
    have old : ∀ i, i < n → (ss ++ [b]).getD i false = ss.getD i false := fun i hi => by
      rw [List.getD_eq_getElem?_getD, List.getElem?_append_left (by omega), ← List.getD_eq_getElem?_getD]
    have new : (ss ++ [b]).getD n false = b := by
      rw [List.getD_eq_getElem?_getD, List.getElem?_append_right (by omega), hl, Nat.sub_self]; rfl
    constructor
    · rintro (⟨i, e, h, g⟩ | z)
      · exact ⟨i, e, by omega, by rw [old i h]; exact g⟩
      · cases b with
        | false => simp at z
        | true =>
          have : k = (n : Int) := by simpa using z
          exact ⟨n, this, by omega, new⟩
    · rintro ⟨i, e, h, g⟩
      by_cases c : i < n
      · exact .inl ⟨i, e, c, by rw [← old i c]; exact g⟩
      · have : i = n := by omega
        subst this
        rw [new] at g
        subst g
        exact .inr (by simp [e])
theorem sB_posI {n : Nat} {ss : List Bool} (h : ss.length = n) : sB n (posI ss) = ss := by
  refine List.ext_getElem (by rw [sB_len, h]) fun k h1 h2 => ?_
  have e0 : (sB n (posI ss))[k] = decide ((k : Int) ∈ posI ss) := by simp only [sB, List.getElem_map, List.getElem_range]
  rw [e0]
  have e : ss.getD k false = ss[k] := by rw [List.getD_eq_getElem?_getD, List.getElem?_eq_getElem h2]; rfl
  have : ((k : Int) ∈ posI ss) ↔ ss[k] = true := by
    rw [posI_mem, ← e]
    constructor
    · rintro ⟨i, e1, _, g⟩
      have : i = k := by omega
      rw [← this]; exact g
    · intro g; exact ⟨k, rfl, h2, g⟩
  cases c : ss[k] with
  | true => exact decide_eq_true (this.mpr c)
  | false => exact decide_eq_false fun z => by rw [this.mp z] at c; cases c
theorem posI_inj {xs ys : List Bool} (hl : xs.length = ys.length) (h : posI xs = posI ys) : xs = ys := by
  rw [← sB_posI (ss := xs) rfl, ← sB_posI (ss := ys) rfl, h, hl]
theorem posI_cnt : ∀ ss : List Bool, (posI ss).length = cntB ss := by
  have go : ∀ (ss : List Bool) (i : Nat), (posL id ss i).length = cntB ss := by
    intro ss
    induction ss with
    | nil => intro i; rfl
    | cons s ss ih =>
      intro i
      rw [cntB_cons]
      unfold posL
      cases s with
      | true =>
        show (i :: posL id ss (i + 1)).length = true.toNat + cntB ss
        rw [List.length_cons, ih]; simp; omega
      | false =>
        show (posL id ss (i + 1)).length = false.toNat + cntB ss
        rw [ih]; simp
  intro ss
  unfold posI
  rw [List.length_map, go]
theorem subsL_mem : ∀ (n : Nat) (s : List Int), s ∈ subsL n ↔ ∃ ss : List Bool, ss.length = n ∧ s = posI ss
  | 0, s => by
    constructor
    · intro h
      have e : s = [] := by simpa [subsL] using h
      exact ⟨[], rfl, e⟩
    · rintro ⟨ss, h, rfl⟩
      rw [List.length_eq_zero_iff.mp h]
      simp [subsL, posI, posL]
  | n + 1, s => by
    have ih := subsL_mem n
    rw [subsL, List.mem_append]
    constructor
    · rintro (h | h)
      · obtain ⟨ss, h1, rfl⟩ := (ih s).mp h
        exact ⟨ss ++ [false], by simp [h1], by rw [posI_snoc]; simp⟩
      · obtain ⟨u, hu, rfl⟩ := List.mem_map.mp h
        obtain ⟨ss, h1, rfl⟩ := (ih u).mp hu
        exact ⟨ss ++ [true], by simp [h1], by rw [posI_snoc, h1]; simp⟩
    · rintro ⟨ss, h, rfl⟩
      obtain ⟨ss, b, rfl, hl⟩ := snoc_of h
      rw [posI_snoc, hl]
      cases b with
      | false => left; simpa using (ih _).mpr ⟨ss, hl, rfl⟩
      | true => right; exact List.mem_map.mpr ⟨posI ss, (ih _).mpr ⟨ss, hl, rfl⟩, by simp⟩
theorem sets_mem {n m : Nat} {s : List Int} : s ∈ setsL n m ↔ ∃ ss : List Bool, ss.length = n ∧ cntB ss ≤ m ∧ s = posI ss := by
  unfold setsL
  rw [List.mem_filter, subsL_mem]
  constructor
  · rintro ⟨⟨ss, h1, rfl⟩, h2⟩
    exact ⟨ss, h1, by rw [← posI_cnt]; exact of_decide_eq_true h2, rfl⟩
  · rintro ⟨ss, h1, h2, rfl⟩
    exact ⟨⟨ss, h1, rfl⟩, decide_eq_true (by rw [posI_cnt]; exact h2)⟩
/-! ## what lives, both ways -/
theorem livR_rows {js : List Job} {sets : List (List Int)} : ∀ {k : Nat} {r : List Int}, r ∈ livR js sets k → r ∈ rowsR js ((spanN js : Int) - (k : Int))
  | 0, r, h => by simpa [livR] using h
  | k + 1, r, h => (List.mem_filter.mp h).1
theorem liv_big {js : List Job} {hs : List Nat} : ∀ {k a : Nat}, (livK js hs k).testBit a = true → a < 2 ^ js.length
  | 0, a, h => poss_big (doub_lt js _) h
  | k + 1, a, h => by
    unfold livK at h
    rw [Nat.testBit_and] at h
    exact poss_big (doub_lt js _) (Bool.and_eq_true_iff.mp h).2
theorem hands_getD {n : Nat} {js : List Job} {i : Nat} (h : i < spanN js) : (handsL n js).getD i 0 = n := by
  unfold handsL
  rw [List.getD_eq_getElem?_getD, List.getElem?_replicate, if_pos h]; rfl
theorem liv_bit {js : List Job} (G : Good 16 js) {n : Nat} {sets : List (List Int)} (hr : ∀ s, s ∈ sets ↔ s ∈ setsL js.length n) : ∀ k, k ≤ spanN js → ∀ bs : List Bool, bs.length = js.length →
    ((livK js (handsL n js) k).testBit (numB bs) = true ↔ (subB (dbB js ((spanN js : Int) - (k : Int))) bs = true ∧ rowB js ((spanN js : Int) - (k : Int)) bs ∈ livR js sets k)) := by
  have hl : (handsL n js).length = spanN js := List.length_replicate
  intro k
  induction k with
  | zero =>
    intro _ bs hb
    show (possN js.length (doubN js (handsL n js).length)).testBit (numB bs) = true ↔ _
    rw [hl, doub_B, poss_bit (dbB_len js _) hb]
    have e : ((spanN js : Int) - ((0 : Nat) : Int)) = (spanN js : Int) := by omega
    rw [e]
    refine ⟨fun h => ⟨h, ?_⟩, fun h => h.1⟩
    show rowB js (spanN js : Int) bs ∈ rowsR js (spanN js : Int)
    exact (rows_bits G).mpr ⟨bs, h, rfl⟩
  | succ k ih =>
    intro hk bs hb
    have ih := ih (by omega)
    have e : ((spanN js : Int) - ((k + 1 : Nat) : Int)) = ((spanN js - (k + 1) : Nat) : Int) := by omega
    have e1 : ((spanN js : Int) - (k : Int)) = ((spanN js - (k + 1) : Nat) : Int) + 1 := by omega
    rw [e1] at ih
    unfold livK livR
    rw [e, hl, hands_getD (by omega), Nat.testBit_and, doub_B, poss_bit (dbB_len js _) hb, Bool.and_eq_true_iff]
    generalize spanN js - (k + 1) = t at *
    have bb := before_bit (n := js.length) (after := livK js (handsL n js) k) (most := n) hb (grB_len js (t : Int)) (grow_B js t)
    unfold naL
    rw [bb, List.mem_filter]
    constructor
    · rintro ⟨⟨ss, cs, r, c, z⟩, d⟩
      obtain ⟨l1, l2, l3⟩ := relB_len r
      rw [grB_len] at l1 l2 l3
      obtain ⟨z1, z2⟩ := (ih cs l3).mp z
      refine ⟨d, (rows_bits G).mpr ⟨bs, d, rfl⟩, List.any_eq_true.mpr ⟨posI ss, (hr _).mpr (sets_mem.mpr ⟨ss, l2, c, rfl⟩), decide_eq_true ?_⟩⟩
      rw [plus_B, rowB_len hb, sB_posI l2, (add_rel (good_pos G) (good_le G) hb l2 l3).mpr r]
      exact z2
    · rintro ⟨d, _, z⟩
      refine ⟨?_, d⟩
      obtain ⟨s, hs, z⟩ := List.any_eq_true.mp z
      have z := of_decide_eq_true z
      obtain ⟨ss, l2, c, rfl⟩ := sets_mem.mp ((hr s).mp hs)
      have zr := livR_rows z
      rw [e1] at zr
      obtain ⟨cs, d2, e2⟩ := (rows_bits G).mp zr
      have l3 : cs.length = js.length := by rw [← subB_len d2, dbB_len]
      rw [plus_B, rowB_len hb, sB_posI l2] at e2 z
      refine ⟨ss, cs, (add_rel (good_pos G) (good_le G) hb l2 l3).mp e2, c, (ih cs l3).mpr ⟨d2, ?_⟩⟩
      rw [← e2]; exact z
theorem liv_zero {js : List Job} (G : Good 16 js) {n : Nat} {sets : List (List Int)} (hr : ∀ s, s ∈ sets ↔ s ∈ setsL js.length n) : livK js (handsL n js) (spanN js) = 0 ↔ livR js sets (spanN js) = [] := by
  have lb := liv_bit G hr (spanN js) (Nat.le_refl _)
  constructor
  · intro h
    refine List.eq_nil_iff_forall_not_mem.mpr fun r hmem => ?_
    obtain ⟨bs, d, rfl⟩ := (rows_bits G).mp (livR_rows hmem)
    have := (lb bs (by rw [← subB_len d, dbB_len])).mpr ⟨d, hmem⟩
    rw [h] at this
    simp at this
  · intro h
    refine Nat.eq_of_testBit_eq fun a => ?_
    rw [Nat.zero_testBit]
    cases c : (livK js (handsL n js) (spanN js)).testBit a with
    | false => rfl
    | true =>
      have ha := liv_big c
      rw [← bitsN_num ha] at c
      have := ((lb _ (bitsN_len _ _)).mp c).2
      rw [h] at this; cases this
theorem livL_bit {js : List Job} (G : Good 16 js) {n : Nat} {sets : List (List Int)} (hr : ∀ s, s ∈ sets ↔ s ∈ setsL js.length n) {m : Nat} (hm : m ≤ spanN js) {bs : List Bool} (hb : bs.length = js.length) :
    ((livL js (handsL n js)).getD m 0).testBit (numB bs) = true ↔ (subB (dbB js (m : Int)) bs = true ∧ rowB js (m : Int) bs ∈ (livJ js sets).getD m []) := by
  have hl : (handsL n js).length = spanN js := List.length_replicate
  unfold livL livJ
  rw [hl]
  by_cases c : livK js (handsL n js) (spanN js) = 0
  · rw [if_pos c, if_pos ((liv_zero G hr).mp c), List.getD_eq_getElem?_getD, List.getD_eq_getElem?_getD, List.getElem?_replicate, List.getElem?_replicate, if_pos (by omega), if_pos (by omega)]
    simp
  · rw [if_neg c, if_neg (fun z => c ((liv_zero G hr).mpr z))]
    unfold livT
    rw [List.getD_eq_getElem?_getD, List.getD_eq_getElem?_getD, List.getElem?_map, List.getElem?_map, List.getElem?_range (by omega)]
    have := liv_bit G hr (spanN js - m) (by omega) bs hb
    have e : ((spanN js : Int) - ((spanN js - m : Nat) : Int)) = (m : Int) := by omega
    rw [e] at this
    exact this
end Ts
namespace Ts
open PySem PySem.Spec PyProof.Rows L2
/-! ## choices: crews against sets -/
theorem numB_and : ∀ {xs ys : List Bool}, xs.length = ys.length → numB xs &&& numB ys = numB (List.zipWith (· && ·) xs ys) := by
  intro xs ys h
  refine Nat.eq_of_testBit_eq fun i => ?_
  rw [Nat.testBit_and, numB_bit, numB_bit, numB_bit]
  induction xs generalizing ys i with
  | nil => simp
  | cons x xs ih =>
    cases ys with
    | nil => cases h
    | cons y ys =>
      cases i with
      | zero => rfl
      | succ i => exact ih (by simpa using h) i
theorem numB_or : ∀ {xs ys : List Bool}, xs.length = ys.length → numB xs ||| numB ys = numB (List.zipWith (· || ·) xs ys) := by
  intro xs ys h
  refine Nat.eq_of_testBit_eq fun i => ?_
  rw [Nat.testBit_or, numB_bit, numB_bit, numB_bit]
  induction xs generalizing ys i with
  | nil => rw [← List.length_eq_zero_iff.mp h.symm]; simp
  | cons x xs ih =>
    cases ys with
    | nil => cases h
    | cons y ys =>
      cases i with
      | zero => rfl
      | succ i => exact ih (by simpa using h) i
/-- who must have a hand; whose number is free to grow -/
def ndB (gs as : List Bool) : List Bool := List.zipWith (fun g a => g && !a) gs as
def xoB (gs as : List Bool) : List Bool := List.zipWith (fun g a => g != a) gs as
theorem numB_split (f1 f2 f3 : Bool → Bool → Bool) (hf : ∀ a b, (f1 a b).toNat = (f2 a b).toNat + (f3 a b).toNat) : ∀ {xs ys : List Bool}, xs.length = ys.length → numB (List.zipWith f1 xs ys) = numB (List.zipWith f2 xs ys) + numB (List.zipWith f3 xs ys)
  | [], [], _ => rfl
  | x :: xs, y :: ys, h => by
    have ih := numB_split f1 f2 f3 hf (xs := xs) (ys := ys) (by simpa using h)
    have := hf x y
    show (f1 x y).toNat + 2 * numB (List.zipWith f1 xs ys) = (f2 x y).toNat + 2 * numB (List.zipWith f2 xs ys) + ((f3 x y).toNat + 2 * numB (List.zipWith f3 xs ys))
    omega
  | [], _ :: _, h => by cases h
  | _ :: _, [], h => by cases h
theorem zip_left : ∀ {xs ys : List Bool}, xs.length = ys.length → List.zipWith (fun a _ => a) xs ys = xs
  | [], [], _ => rfl
  | x :: xs, y :: ys, h => by
    show x :: List.zipWith (fun a _ => a) xs ys = x :: xs
    rw [zip_left (by simpa using h)]
  | [], _ :: _, h => by cases h
  | _ :: _, [], h => by cases h
theorem need_B {gs as : List Bool} (h : gs.length = as.length) : needN (numB gs) (numB as) = numB (ndB gs as) := by
  unfold needN
  rw [numB_and h]
  have := numB_split (fun a _ => a) (· && ·) (fun g a => g && !a) (by decide) h
  rw [zip_left h] at this
  unfold ndB
  omega
theorem xor_B {gs as : List Bool} (h : gs.length = as.length) : xorN (numB gs) (numB as) = numB (xoB gs as) := by
  unfold xorN
  rw [numB_and h, numB_or h]
  have := numB_split (· || ·) (· && ·) (fun g a => g != a) (by decide) h
  unfold xoB
  omega
theorem nd_len {gs as : List Bool} (h : gs.length = as.length) : (ndB gs as).length = gs.length := by unfold ndB; rw [List.length_zipWith, ← h, Nat.min_self]
theorem xo_len {gs as : List Bool} (h : gs.length = as.length) : (xoB gs as).length = gs.length := by unfold xoB; rw [List.length_zipWith, ← h, Nat.min_self]
theorem sizes_at : ∀ (n : Nat) (ps : List Bool), ps.length = n → (sizesN n).getD (numB ps) 0 = cntB ps
  | 0, ps, h => by
    rw [List.length_eq_zero_iff.mp h]; rfl
  | n + 1, ps, h => by
    obtain ⟨ps, p, rfl, hl⟩ := snoc_of h
    have ih := sizes_at n ps hl
    have lt : numB ps < 2 ^ n := by have := numB_lt ps; rwa [hl] at this
    have sl := sizes_len n
    have ec : cntB (ps ++ [p]) = cntB ps + p.toNat := by
      unfold cntB
      rw [List.filter_append, List.length_append]
      cases p <;> rfl
    rw [numB_snoc, ec, hl, sizesN]
    cases p with
    | false =>
      rw [show numB ps + 2 ^ n * false.toNat = numB ps by simp, List.getD_eq_getElem?_getD, List.getElem?_append_left (by omega), ← List.getD_eq_getElem?_getD, ih]; rfl
    | true =>
      rw [show numB ps + 2 ^ n * true.toNat = numB ps + 2 ^ n by simp, List.getD_eq_getElem?_getD, List.getElem?_append_right (by omega), sl, Nat.add_sub_cancel, List.getElem?_map, List.getElem?_eq_getElem (by omega)]
      rw [List.getD_eq_getElem?_getD, List.getElem?_eq_getElem (by omega)] at ih
      show (sizesN n)[numB ps] + 1 = cntB ps + 1
      rw [show (sizesN n)[numB ps] = cntB ps from ih]
theorem rel_num : ∀ {gs as ss bs : List Bool}, relB gs as ss bs → numB bs + numB gs = numB as + numB ss
  | [], [], [], [], _ => rfl
  | g :: gs, a :: as, s :: ss, b :: bs, h => by
    have ih := rel_num h.2
    have h1 := h.1
    show b.toNat + 2 * numB bs + (g.toNat + 2 * numB gs) = a.toNat + 2 * numB as + (s.toNat + 2 * numB ss)
    omega
  | [], [], [], _ :: _, h => h.elim
  | [], [], _ :: _, _, h => h.elim
  | [], _ :: _, _, _, h => h.elim
  | _ :: _, [], _, _, h => h.elim
  | _ :: _, _ :: _, [], _, h => h.elim
  | _ :: _, _ :: _, _ :: _, [], h => h.elim
/-- a crew: those that must, and some of those that may -/
theorem crew_of_rel : ∀ {gs as cs bs ds : List Bool}, relB gs as cs bs → subB ds bs = true →
    ∃ ps, subB (List.zipWith (fun d x => d && !x) ds (xoB gs as)) ps = true ∧ numB cs = numB (ndB gs as) + numB ps ∧ cntB cs = cntB (ndB gs as) + cntB ps
  | [], [], [], [], [], _, _ => ⟨[], rfl, rfl, rfl⟩
  | g :: gs, a :: as, c :: cs, b :: bs, d :: ds, h, hd => by
    obtain ⟨d1, d2⟩ := Bool.and_eq_true_iff.mp hd
    obtain ⟨ps, h1, h2, h3⟩ := crew_of_rel h.2 d2
    have h0 := h.1
    refine ⟨(c && !(g && !a)) :: ps, Bool.and_eq_true_iff.mpr ⟨?_, h1⟩, ?_, ?_⟩
    · show (!(c && !(g && !a)) || (d && !(g != a))) = true
      revert h0 d1
      cases g <;> cases a <;> cases c <;> cases b <;> cases d <;> simp
    · show c.toNat + 2 * numB cs = ((g && !a).toNat + 2 * numB (ndB gs as)) + ((c && !(g && !a)).toNat + 2 * numB ps)
      have : c.toNat = (g && !a).toNat + (c && !(g && !a)).toNat := by
        revert h0
        cases g <;> cases a <;> cases c <;> cases b <;> simp
      omega
    · show cntB (c :: cs) = cntB ((g && !a) :: ndB gs as) + cntB ((c && !(g && !a)) :: ps)
      rw [cntB_cons, cntB_cons, cntB_cons]
      have : c.toNat = (g && !a).toNat + (c && !(g && !a)).toNat := by
        revert h0
        cases g <;> cases a <;> cases c <;> cases b <;> simp
      omega
  | [], [], [], _ :: _, _, h, _ => h.elim
  | [], [], _ :: _, _, _, h, _ => h.elim
  | [], _ :: _, _, _, _, h, _ => h.elim
  | _ :: _, [], _, _, _, h, _ => h.elim
  | _ :: _, _ :: _, [], _, _, h, _ => h.elim
  | _ :: _, _ :: _, _ :: _, [], _, h, _ => h.elim
  | [], [], [], [], _ :: _, _, h => by cases h
  | _ :: _, _ :: _, _ :: _, _ :: _, [], _, h => by cases h
theorem rel_of_crew : ∀ {gs as ds ps : List Bool}, gs.length = as.length → ds.length = as.length → subB (List.zipWith (fun d x => d && !x) ds (xoB gs as)) ps = true →
    ∃ cs bs, relB gs as cs bs ∧ numB cs = numB (ndB gs as) + numB ps ∧ cntB cs = cntB (ndB gs as) + cntB ps
  | [], [], [], [], _, _, _ => ⟨[], [], trivial, rfl, rfl⟩
  | g :: gs, a :: as, d :: ds, p :: ps, h1, h2, h => by
    obtain ⟨q1, q2⟩ := Bool.and_eq_true_iff.mp h
    obtain ⟨cs, bs, r, e1, e2⟩ := rel_of_crew (gs := gs) (as := as) (ds := ds) (ps := ps) (by simpa using h1) (by simpa using h2) q2
    have key : ∃ c b : Bool, b.toNat + g.toNat = a.toNat + c.toNat ∧ c.toNat = (g && !a).toNat + p.toNat := by
      have q : (!p || (d && !(g != a))) = true := q1
      revert q
      cases g <;> cases a <;> cases p <;> cases d <;> simp
    obtain ⟨c, b, k1, k2⟩ := key
    refine ⟨c :: cs, b :: bs, ⟨k1, r⟩, ?_, ?_⟩
    · show c.toNat + 2 * numB cs = ((g && !a).toNat + 2 * numB (ndB gs as)) + (p.toNat + 2 * numB ps)
      omega
    · show cntB (c :: cs) = cntB ((g && !a) :: ndB gs as) + cntB (p :: ps)
      rw [cntB_cons, cntB_cons, cntB_cons]; omega
  | [], [], _ :: _, _, _, h, _ => by cases h
  | [], _ :: _, _, _, h, _, _ => by cases h
  | _ :: _, [], _, _, h, _, _ => by cases h
  | _ :: _, _ :: _, [], _, _, h, _ => by cases h
  | [], [], [], _ :: _, _, _, h => by cases h
  | _ :: _, _ :: _, _ :: _, [], _, _, h => by cases h
theorem bit_test (x c : Nat) : (x / 2 ^ c % 2 == 1) = x.testBit c := by
  rw [Nat.testBit_eq_decide_div_mod_eq]
  by_cases h : x / 2 ^ c % 2 = 1
  · rw [decide_eq_true h, h]; rfl
  · rw [decide_eq_false h]; simpa using h
theorem choice_iff {js : List Job} {n m c : Nat} {as : List Bool} (l6 : js.length ≤ 6) (hm : m < spanN js) (ha : as.length = js.length) (hd : ∀ bs : List Bool, bs.length = js.length → ((livL js (handsL n js)).getD (m + 1) 0).testBit (numB bs) = true → subB (dbB js ((m : Int) + 1)) bs = true) :
    c ∈ choicesN js (handsL n js) m (numB as) ↔ ∃ cs bs, c = numB cs ∧ relB (grB js (m : Int)) as cs bs ∧ cntB cs ≤ n ∧ ((livL js (handsL n js)).getD (m + 1) 0).testBit (numB bs) = true := by
  have hg : (grB js (m : Int)).length = as.length := by rw [grB_len, ha]
  have hdl : (dbB js ((m : Int) + 1)).length = as.length := by rw [dbB_len, ha]
  have e1 : ((m + 1 : Nat) : Int) = (m : Int) + 1 := by omega
  have enx : needN (numB (dbB js ((m : Int) + 1))) (numB (xoB (grB js (m : Int)) as)) = numB (List.zipWith (fun d x => d && !x) (dbB js ((m : Int) + 1)) (xoB (grB js (m : Int)) as)) := need_B (by rw [xo_len hg, grB_len, dbB_len])
  have lzd : (List.zipWith (fun d x => d && !x) (dbB js ((m : Int) + 1)) (xoB (grB js (m : Int)) as)).length = js.length := by rw [List.length_zipWith, xo_len hg, grB_len, dbB_len, Nat.min_self]
  unfold choicesN crewsN
  rw [List.mem_filter, doub_B, grow_B, e1, need_B hg, xor_B hg, enx, hands_getD hm, sizes_at _ _ ((nd_len hg).trans (grB_len _ _))]
  generalize (livL js (handsL n js)).getD (m + 1) 0 = lv at *
  rw [bit_test]
  constructor
  · rintro ⟨h1, h2⟩
    obtain ⟨p, hp, rfl⟩ := List.mem_map.mp h1
    obtain ⟨hp1, hp2⟩ := List.mem_filter.mp hp
    have zl : numB (List.zipWith (fun d x => d && !x) (dbB js ((m : Int) + 1)) (xoB (grB js (m : Int)) as)) < 2 ^ js.length := by
      have := numB_lt (List.zipWith (fun d x => d && !x) (dbB js ((m : Int) + 1)) (xoB (grB js (m : Int)) as))
      rwa [lzd] at this
    have pl := subs_lt js.length (subs_getD _ _ zl) hp1
    have ep := bitsN_num pl
    rw [← ep] at hp1 hp2
    have lb := bitsN_len js.length p
    have sub := (subs_mem js.length _ _ lzd lb).mp hp1
    obtain ⟨cs, bs, r, k1, k2⟩ := rel_of_crew hg hdl sub
    have c1 := of_decide_eq_true hp2
    rw [sizes_at _ _ lb] at c1
    have rn := rel_num r
    refine ⟨cs, bs, by rw [k1, ep], r, by omega, ?_⟩
    rw [show numB as + (numB (ndB (grB js (m : Int)) as) + p) - numB (grB js (m : Int)) = numB bs by rw [ep] at k1; omega] at h2
    exact h2
  · rintro ⟨cs, bs, rfl, r, c1, z⟩
    obtain ⟨l1, l2, l3⟩ := relB_len r
    rw [grB_len] at l2 l3
    obtain ⟨ps, k1, k2, k3⟩ := crew_of_rel r (hd bs l3 z)
    have lp : ps.length = js.length := by rw [← subB_len k1, lzd]
    have rn := rel_num r
    refine ⟨List.mem_map.mpr ⟨numB ps, List.mem_filter.mpr ⟨(subs_mem js.length _ _ lzd lp).mpr k1, decide_eq_true (by rw [sizes_at _ _ lp]; omega)⟩, k2.symm⟩, ?_⟩
    rw [show numB as + numB cs - numB (grB js (m : Int)) = numB bs by omega]
    exact z
/-! ### crews as rows -/
theorem members_few {c : Nat} (h : c < 64) : membersN c = (List.range 6).filter fun i => c.testBit i := by
  have go : ∀ c : Fin 64, membersN c.val = (List.range 6).filter fun i => c.val.testBit i := by decide +kernel
  exact go ⟨c, h⟩
theorem pos_filter : ∀ (ss : List Bool) (i : Nat), posL id ss i = (List.range' i ss.length).filter fun k => ss.getD (k - i) false
  | [], i => rfl
  | s :: ss, i => by
    have ih := pos_filter ss (i + 1)
    have e : (List.range' (i + 1) ss.length).filter (fun k => (s :: ss).getD (k - i) false) = (List.range' (i + 1) ss.length).filter fun k => ss.getD (k - (i + 1)) false := by
      refine List.filter_congr fun k hk => ?_
      have := (List.mem_range'_1.mp hk).1
      rw [show k - i = (k - (i + 1)) + 1 by omega]; rfl
    rw [List.length_cons, List.range'_succ, List.filter_cons, e, ← ih, Nat.sub_self]
    show (if id s = true then i :: posL id ss (i + 1) else posL id ss (i + 1)) = if (s :: ss).getD 0 false = true then i :: posL id ss (i + 1) else posL id ss (i + 1)
    rfl
theorem members_B {cs : List Bool} (h : cs.length ≤ 6) : (membersN (numB cs)).map (fun m : Nat => (m : Int)) = posI cs := by
  have lt : numB cs < 64 := Nat.lt_of_lt_of_le (numB_lt cs) (Nat.pow_le_pow_right (n := 2) (by decide) h)
  unfold posI
  rw [members_few lt, pos_filter]
  congr 1
  rw [show (6 : Nat) = cs.length + (6 - cs.length) by omega, List.range_eq_range', ← List.range'_append_1, List.filter_append]
  rw [show (List.range' (0 + cs.length) (6 - cs.length)).filter (fun i => (numB cs).testBit i) = [] from List.filter_eq_nil_iff.mpr fun k hk => by
    have := (List.mem_range'_1.mp hk).1
    rw [numB_bit, List.getD_eq_getElem?_getD, List.getElem?_eq_none (by omega)]
    simp]
  rw [List.append_nil]
  refine List.filter_congr fun k hk => ?_
  rw [numB_bit, Nat.sub_zero]
/-! ### sorted lists with the same members -/
theorem crews_asc {js : List Job} {hs : List Nat} {m a : Nat} : (crewsN js hs m a).Pairwise (· < ·) := by
  unfold crewsN
  refine List.pairwise_map.mpr (List.Pairwise.imp (fun {x y} z => Nat.add_lt_add_left z _) (List.Pairwise.filter _ (subs_asc js.length _ (subs_getD _ _ ?_))))
  exact Nat.lt_of_le_of_lt (need_le _ _) (doub_lt js (m + 1))
/-! ### one tick of the law's own walk -/
theorem livJ_step {js : List Job} {sets : List (List Int)} {m : Nat} (hm : m < spanN js) {r : List Int} (hr : r ∈ rowsR js (m : Int)) :
    decide (r ∈ (livJ js sets).getD m []) = sets.any fun s => decide (plusR r s ∈ (livJ js sets).getD (m + 1) []) := by
  unfold livJ
  by_cases c : livR js sets (spanN js) = []
  · rw [if_pos c]
    have z : ∀ i, (List.replicate (spanN js + 1) ([] : List (List Int))).getD i [] = [] := fun i => by
      rw [List.getD_eq_getElem?_getD, List.getElem?_replicate]
      split <;> rfl
    rw [z, z]
    simp
  · rw [if_neg c]
    unfold livT
    have z : ∀ i, i ≤ spanN js → ((List.range (spanN js + 1)).map fun m => livR js sets (spanN js - m)).getD i [] = livR js sets (spanN js - i) := fun i hi => by
      rw [List.getD_eq_getElem?_getD, List.getElem?_map, List.getElem?_range (by omega)]; rfl
    rw [z m (by omega), z (m + 1) (by omega), show spanN js - m = spanN js - (m + 1) + 1 by omega, livR_succ]
    have e : ((spanN js : Int) - ((spanN js - (m + 1) + 1 : Nat) : Int)) = (m : Int) := by omega
    rw [e]
    unfold goB
    cases g : sets.any fun s => decide (plusR r s ∈ livR js sets (spanN js - (m + 1))) with
    | true => exact decide_eq_true (List.mem_filter.mpr ⟨hr, g⟩)
    | false => exact decide_eq_false fun y => by rw [(List.mem_filter.mp y).2] at g; cases g
theorem LivAll.get {H : Hp} {vs : List V} {rs : List (List (List Int))} (h : LivAll H vs rs) : ∀ {i : Nat} {rows : List (List Int)}, rs[i]? = some rows → ∃ a, vs[i]? = some (.ref a) ∧ H a = some (.dT (rowsK rows)) := by
  induction h with
  | nil => intro i rows e; simp at e
  | cons a _ ih =>
    intro i rows e
    cases i with
    | zero => obtain ⟨x, rfl, g⟩ := a; cases e; exact ⟨x, rfl, g⟩
    | succ i => exact ih (by simpa using e)
end Ts
namespace Ts
/-! ## one cell each: who can be given cells of his own, no more in all than a rank allows -/
section
variable {α β : Type} [DecidableEq α] [DecidableEq β]
def unU (jobs : List α) (A : α → β → Bool) (I : α → Bool) : β → Bool := fun x => jobs.any fun k => I k && A k x
def cardU (jobs : List α) (I : α → Bool) : Nat := (jobs.filter I).length
structure RankU (r : (β → Bool) → Nat) : Prop where
  mono : ∀ S S' : β → Bool, (∀ x, S x = true → S' x = true) → r S ≤ r S'
  sub : ∀ S S' : β → Bool, r (fun x => S x || S' x) + r (fun x => S x && S' x) ≤ r S + r S'
def RadoU (jobs : List α) (r : (β → Bool) → Nat) (A : α → β → Bool) : Prop := ∀ I : α → Bool, cardU jobs I ≤ r (unU jobs A I)
theorem card_or_and (jobs : List α) (I J : α → Bool) : cardU jobs (fun k => I k || J k) + cardU jobs (fun k => I k && J k) = cardU jobs I + cardU jobs J := by
  unfold cardU
  induction jobs with
  | nil => rfl
  | cons k ks ih =>
    simp only [List.filter_cons]
    cases I k <;> cases J k <;> simp only [Bool.or_self, Bool.and_self, Bool.or_true, Bool.true_or, Bool.or_false, Bool.and_false, Bool.false_and, Bool.and_true, if_true, if_false, List.length_cons, Bool.false_eq_true] <;> omega
theorem card_but {jobs : List α} (nd : jobs.Nodup) (I : α → Bool) (k : α) : cardU jobs I ≤ cardU jobs (fun l => I l && !decide (l = k)) + 1 := by
  unfold cardU
  induction jobs with
  | nil => simp
  | cons l ls ih =>
    obtain ⟨h1, h2⟩ := List.nodup_cons.mp nd
    have ih := ih h2
    simp only [List.filter_cons]
    by_cases e : l = k
    · subst e
      have same : ls.filter (fun m => I m && !decide (m = l)) = ls.filter I := List.filter_congr fun m hm => by
        have : m ≠ l := fun z => h1 (z ▸ hm)
        simp [this]
      rw [same]
      cases I l <;> simp
    · cases I l <;> simp [e] <;> omega
/-- one cell taken out -/
def dropU (A : α → β → Bool) (k : α) (x : β) : α → β → Bool := fun l y => A l y && !(decide (l = k) && decide (y = x))
theorem drop_same {jobs : List α} {A : α → β → Bool} {k : α} {x : β} {I : α → Bool} (h : I k = false) : unU jobs (dropU A k x) I = unU jobs A I := by
  funext z
  unfold unU
  congr 1
  funext l
  unfold dropU
  by_cases e : l = k
  · subst e; rw [h]; rfl
  · simp [e]
theorem rado_drop {jobs : List α} (nd : jobs.Nodup) {r : (β → Bool) → Nat} (R : RankU r) {A : α → β → Bool} (h : RadoU jobs r A) {k : α} {x y : β} (hxy : x ≠ y) : RadoU jobs r (dropU A k x) ∨ RadoU jobs r (dropU A k y) := by
  refine Classical.byContradiction fun no => ?_
  obtain ⟨n1, n2⟩ := not_or.mp no
  obtain ⟨I, hI⟩ := Classical.not_forall.mp n1
  obtain ⟨J, hJ⟩ := Classical.not_forall.mp n2
  have hI := Nat.lt_of_not_le hI
  have hJ := Nat.lt_of_not_le hJ
  have iT : I k = true := by
    cases c : I k with
    | true => rfl
    | false => rw [drop_same c] at hI; exact absurd (h I) (by omega)
  have jT : J k = true := by
    cases c : J k with
    | true => rfl
    | false => rw [drop_same c] at hJ; exact absurd (h J) (by omega)
  have s := R.sub (unU jobs (dropU A k x) I) (unU jobs (dropU A k y) J)
  have m1 := R.mono (unU jobs A fun l => I l || J l) (fun z => unU jobs (dropU A k x) I z || unU jobs (dropU A k y) J z) fun z hz => by
    obtain ⟨l, hl, hz⟩ := List.any_eq_true.mp hz
    obtain ⟨h1, h2⟩ := Bool.and_eq_true_iff.mp hz
    refine Bool.or_eq_true_iff.mpr ?_
    by_cases e : l = k
    · subst e
      by_cases c : z = x
      · have : z ≠ y := fun q => hxy (c.symm.trans q)
        exact .inr (List.any_eq_true.mpr ⟨l, hl, by simp [dropU, jT, h2, this]⟩)
      · exact .inl (List.any_eq_true.mpr ⟨l, hl, by simp [dropU, iT, h2, c]⟩)
    · rcases Bool.or_eq_true_iff.mp h1 with q | q
      · exact .inl (List.any_eq_true.mpr ⟨l, hl, by simp [dropU, q, h2, e]⟩)
      · exact .inr (List.any_eq_true.mpr ⟨l, hl, by simp [dropU, q, h2, e]⟩)
  have m2 := R.mono (unU jobs A fun l => (I l && J l) && !decide (l = k)) (fun z => unU jobs (dropU A k x) I z && unU jobs (dropU A k y) J z) fun z hz => by
    obtain ⟨l, hl, hz⟩ := List.any_eq_true.mp hz
    obtain ⟨h1, h2⟩ := Bool.and_eq_true_iff.mp hz
    obtain ⟨h3, h4⟩ := Bool.and_eq_true_iff.mp h1
    obtain ⟨h5, h6⟩ := Bool.and_eq_true_iff.mp h3
    have e : l ≠ k := by simpa using h4
    exact Bool.and_eq_true_iff.mpr ⟨List.any_eq_true.mpr ⟨l, hl, by simp [dropU, h5, h2, e]⟩, List.any_eq_true.mpr ⟨l, hl, by simp [dropU, h6, h2, e]⟩⟩
  have a1 := h fun l => I l || J l
  have a2 := h fun l => (I l && J l) && !decide (l = k)
  have a3 := card_but nd (fun l => I l && J l) k
  have a4 := card_or_and jobs I J
  omega
/-- how many cells there are to choose from -/
def sizeU (jobs : List α) (cells : List β) (A : α → β → Bool) : Nat := (jobs.map fun k => (cells.filter (A k)).length).sum
theorem sum_lt_of {f g : α → Nat} : ∀ {l : List α} {k : α}, (∀ x ∈ l, f x ≤ g x) → k ∈ l → f k < g k → (l.map f).sum < (l.map g).sum
  | x :: l, k, h, hk, lt => by
    rw [List.map_cons, List.map_cons, List.sum_cons, List.sum_cons]
    have le : ∀ {l : List α}, (∀ x ∈ l, f x ≤ g x) → (l.map f).sum ≤ (l.map g).sum := fun {l} h => by
      induction l with
      | nil => exact Nat.le_refl _
      | cons y l ih =>
        rw [List.map_cons, List.map_cons, List.sum_cons, List.sum_cons]
        exact Nat.add_le_add (h y List.mem_cons_self) (ih fun z hz => h z (List.mem_cons_of_mem _ hz))
    rcases List.mem_cons.mp hk with e | hk
    · subst e
      have := le fun z hz => h z (List.mem_cons_of_mem _ hz)
      omega
    · have := sum_lt_of (fun z hz => h z (List.mem_cons_of_mem _ hz)) hk lt
      have := h x List.mem_cons_self
      omega
theorem filter_len_le {p q : β → Bool} (h : ∀ x, p x = true → q x = true) (l : List β) : (l.filter p).length ≤ (l.filter q).length := by
  induction l with
  | nil => simp
  | cons x l ih =>
    simp only [List.filter_cons]
    cases c : p x with
    | true => rw [h x c]; simp; exact ih
    | false => cases q x <;> simp <;> omega
theorem filter_len_lt {p q : β → Bool} (h : ∀ x, p x = true → q x = true) {y : β} (hq : q y = true) (hp : p y = false) : ∀ {l : List β}, y ∈ l → (l.filter p).length < (l.filter q).length
  | x :: l, hy => by
    have le := filter_len_le h l
    simp only [List.filter_cons]
    rcases List.mem_cons.mp hy with e | hy
    · subst e
      rw [hq, hp]; simp; omega
    · have := filter_len_lt h hq hp hy
      cases c : p x with
      | true => rw [h x c]; simp; omega
      | false => cases q x <;> simp <;> omega
theorem size_drop {jobs : List α} {cells : List β} {A : α → β → Bool} {k : α} {x : β} (hk : k ∈ jobs) (hx : x ∈ cells) (ha : A k x = true) : sizeU jobs cells (dropU A k x) < sizeU jobs cells A := by
  unfold sizeU
  have le : ∀ l y, dropU A k x l y = true → A l y = true := fun l y z => (Bool.and_eq_true_iff.mp z).1
  exact sum_lt_of (fun l _ => filter_len_le (le l) _) hk (filter_len_lt (le k) ha (by simp [dropU]) hx)
/-- all can be given one cell each -/
theorem rado_pick (b0 : β) {jobs : List α} (nd : jobs.Nodup) {r : (β → Bool) → Nat} (R : RankU r) (r1 : ∀ S : β → Bool, (∀ x, S x = false) → r S = 0) (cells : List β) :
    ∀ (n : Nat) (A : α → β → Bool), sizeU jobs cells A = n → (∀ k x, A k x = true → x ∈ cells) → RadoU jobs r A →
      ∃ c : α → β, (∀ k ∈ jobs, A k (c k) = true) ∧ RadoU jobs r fun k x => decide (x = c k) := by
  intro n
  induction n using Nat.strongRecOn with
  | _ n ih =>
    intro A hn hc h
    by_cases two : ∃ k ∈ jobs, ∃ x y, x ≠ y ∧ A k x = true ∧ A k y = true
    · obtain ⟨k, hk, x, y, hxy, hx, hy⟩ := two
      have le : ∀ z l w, dropU A k z l w = true → A l w = true := fun z l w q => (Bool.and_eq_true_iff.mp q).1
      rcases rado_drop nd R h (k := k) hxy with g | g
      · obtain ⟨c, c1, c2⟩ := ih _ (by rw [← hn]; exact size_drop hk (hc k x hx) hx) (dropU A k x) rfl (fun l w q => hc l w (le x l w q)) g
        exact ⟨c, fun l hl => le x l _ (c1 l hl), c2⟩
      · obtain ⟨c, c1, c2⟩ := ih _ (by rw [← hn]; exact size_drop hk (hc k y hy) hy) (dropU A k y) rfl (fun l w q => hc l w (le y l w q)) g
        exact ⟨c, fun l hl => le y l _ (c1 l hl), c2⟩
    · have one : ∀ k ∈ jobs, ∃ x, A k x = true := fun k hk => by
        refine Classical.byContradiction fun no => ?_
        have g := h fun l => decide (l = k)
        rw [r1 _ fun x => by
          cases q : unU jobs A (fun l => decide (l = k)) x with
          | false => rfl
          | true =>
            obtain ⟨l, _, z⟩ := List.any_eq_true.mp q
            obtain ⟨z1, z2⟩ := Bool.and_eq_true_iff.mp z
            have : l = k := by simpa using z1
            subst this
            exact absurd ⟨x, z2⟩ no] at g
        have : 0 < cardU jobs fun l => decide (l = k) := List.length_pos_of_mem (List.mem_filter.mpr ⟨hk, by simp⟩)
        omega
      let c : α → β := fun k => @dite _ (∃ x, A k x = true) (Classical.propDecidable _) (fun q => Classical.choose q) fun _ => b0
      have cc : ∀ k ∈ jobs, A k (c k) = true := fun k hk => by
        have q := one k hk
        have e : c k = Classical.choose q := dif_pos q
        rw [e]
        exact Classical.choose_spec q
      refine ⟨c, cc, fun I => Nat.le_trans (h I) (R.mono _ _ fun x hx => ?_)⟩
      obtain ⟨k, hk, z⟩ := List.any_eq_true.mp hx
      obtain ⟨z1, z2⟩ := Bool.and_eq_true_iff.mp z
      refine List.any_eq_true.mpr ⟨k, hk, Bool.and_eq_true_iff.mpr ⟨z1, decide_eq_true ?_⟩⟩
      exact Classical.byContradiction fun q => two ⟨k, hk, x, c k, q, z2, cc k hk⟩
end
end Ts
namespace Ts
open PySem PySem.Spec PyProof.Rows L2
/-! ## sums -/
def sumN : Nat → (Nat → Nat) → Nat
  | 0, _ => 0
  | n + 1, f => sumN n f + f n
theorem sumN_le {f g : Nat → Nat} : ∀ {n : Nat}, (∀ i, i < n → f i ≤ g i) → sumN n f ≤ sumN n g
  | 0, _ => Nat.le_refl _
  | n + 1, h => Nat.add_le_add (sumN_le fun i hi => h i (by omega)) (h n (by omega))
theorem sumN_congr {f g : Nat → Nat} {n : Nat} (h : ∀ i, i < n → f i = g i) : sumN n f = sumN n g :=
  Nat.le_antisymm (sumN_le fun i hi => Nat.le_of_eq (h i hi)) (sumN_le fun i hi => Nat.le_of_eq (h i hi).symm)
theorem sumN_add {f g : Nat → Nat} : ∀ {n : Nat}, sumN n (fun i => f i + g i) = sumN n f + sumN n g
  | 0 => rfl
  | n + 1 => by
    show sumN n (fun i => f i + g i) + (f n + g n) = (sumN n f + f n) + (sumN n g + g n)
    rw [sumN_add]; omega
theorem sumN_mul {c : Nat} {f : Nat → Nat} : ∀ {n : Nat}, sumN n (fun i => c * f i) = c * sumN n f
  | 0 => by simp [sumN]
  | n + 1 => by
    show sumN n (fun i => c * f i) + c * f n = c * (sumN n f + f n)
    rw [sumN_mul, Nat.mul_add]
theorem sumN_zero {n : Nat} : sumN n (fun _ => 0) = 0 := by
  induction n with
  | zero => rfl
  | succ n ih => show sumN n _ + 0 = 0; rw [ih]
theorem sumN_comm (f : Nat → Nat → Nat) (m : Nat) : ∀ n : Nat, sumN n (fun i => sumN m fun j => f i j) = sumN m fun j => sumN n fun i => f i j
  | 0 => by show 0 = _; exact (sumN_zero (n := m)).symm
  | n + 1 => by
    show sumN n _ + sumN m _ = _
    rw [sumN_comm f m n, ← sumN_add]; rfl
theorem sumN_ge {f : Nat → Nat} {a : Nat} : ∀ {n : Nat}, (∀ i, i < a → 1 ≤ f i) → a ≤ n → a ≤ sumN n f
  | 0, _, h => by omega
  | n + 1, h, ha => by
    show a ≤ sumN n f + f n
    by_cases c : a ≤ n
    · have := sumN_ge h c; omega
    · have : a = n + 1 := by omega
      subst this
      have ih : n ≤ sumN n f := sumN_ge (a := n) (fun i hi => h i (by omega)) (Nat.le_refl _)
      have := h n (by omega)
      omega
theorem sumN_upto {f : Nat → Nat} {a : Nat} (h1 : ∀ i, f i ≤ 1) (h0 : ∀ i, a ≤ i → f i = 0) : ∀ n : Nat, sumN n f ≤ a ∧ sumN n f ≤ n
  | 0 => ⟨Nat.zero_le _, Nat.le_refl _⟩
  | n + 1 => by
    obtain ⟨ih1, ih2⟩ := sumN_upto h1 h0 n
    show sumN n f + f n ≤ a ∧ sumN n f + f n ≤ n + 1
    have := h1 n
    by_cases c : a ≤ n
    · have := h0 n c; omega
    · omega
theorem sumN_tele {f : Nat → Nat} : ∀ {n : Nat}, (∀ i, f i ≤ f (i + 1)) → sumN n (fun i => f (i + 1) - f i) = f n - f 0
  | 0, _ => by simp [sumN]
  | n + 1, h => by
    show sumN n _ + (f (n + 1) - f n) = _
    rw [sumN_tele h]
    have m : ∀ n, f 0 ≤ f n := fun n => by
      induction n with
      | zero => exact Nat.le_refl _
      | succ n ih => exact Nat.le_trans ih (h n)
    have := h n
    have := m n
    omega
theorem sumN_one {n i0 c : Nat} : sumN n (fun i => if i = i0 then c else 0) ≤ c := by
  induction n with
  | zero => exact Nat.zero_le _
  | succ n ih =>
    show sumN n (fun i => if i = i0 then c else 0) + (if n = i0 then c else 0) ≤ c
    by_cases e : n = i0
    · subst e
      have : sumN n (fun i => if i = n then c else 0) = 0 := by
        rw [sumN_congr (g := fun _ => 0) fun i hi => if_neg (by omega)]
        exact sumN_zero
      rw [this, if_pos rfl]; omega
    · rw [if_neg e]; omega
theorem bsum {b : Bool} : b.toNat ≤ 1 := Bool.toNat_le b
/-! ## cells: a work and a tick -/
def rankC (n W T : Nat) (S : Nat × Nat → Bool) : Nat := sumN T fun t => min n (sumN W fun i => (S (i, t)).toNat)
theorem rankC_ok (n W T : Nat) : RankU (rankC n W T) := by
  constructor
  · intro S S' h
    refine sumN_le fun t _ => ?_
    have : sumN W (fun i => (S (i, t)).toNat) ≤ sumN W fun i => (S' (i, t)).toNat := sumN_le fun i _ => by
      cases c : S (i, t) with
      | false => exact Nat.zero_le _
      | true => rw [h _ c]; exact Nat.le_refl _
    omega
  · intro S S'
    unfold rankC
    rw [← sumN_add, ← sumN_add]
    refine sumN_le fun t _ => ?_
    have e : sumN W (fun i => (S (i, t) || S' (i, t)).toNat) + sumN W (fun i => (S (i, t) && S' (i, t)).toNat) = sumN W (fun i => (S (i, t)).toNat) + sumN W fun i => (S' (i, t)).toNat := by
      rw [← sumN_add, ← sumN_add]
      refine sumN_congr fun i _ => ?_
      cases S (i, t) <;> cases S' (i, t) <;> rfl
    have l1 : sumN W (fun i => (S (i, t) && S' (i, t)).toNat) ≤ sumN W fun i => (S (i, t)).toNat := sumN_le fun i _ => by cases S (i, t) <;> cases S' (i, t) <;> decide
    have l2 : sumN W (fun i => (S (i, t) && S' (i, t)).toNat) ≤ sumN W fun i => (S' (i, t)).toNat := sumN_le fun i _ => by cases S (i, t) <;> cases S' (i, t) <;> decide
    dsimp only
    omega
theorem rankC_zero {n W T : Nat} {S : Nat × Nat → Bool} (h : ∀ x, S x = false) : rankC n W T S = 0 := by
  unfold rankC
  rw [sumN_congr (g := fun _ => 0) fun t _ => by rw [sumN_congr (g := fun _ => 0) fun i _ => by rw [h]; rfl, sumN_zero]; omega]
  exact sumN_zero
/-! ## jobs: each work's turns in the round -/
def jobsC (W : Nat) (m : Nat → Nat) : List (Nat × Nat) := (List.range W).flatMap fun i => (List.range (m i)).map fun j => (i, j)
theorem jobsC_mem {W : Nat} {m : Nat → Nat} {k : Nat × Nat} : k ∈ jobsC W m ↔ k.1 < W ∧ k.2 < m k.1 := by
  unfold jobsC
  rw [List.mem_flatMap]
  constructor
  · rintro ⟨i, hi, h⟩
    obtain ⟨j, hj, rfl⟩ := List.mem_map.mp h
    exact ⟨List.mem_range.mp hi, List.mem_range.mp hj⟩
  · rintro ⟨h1, h2⟩
    exact ⟨k.1, List.mem_range.mpr h1, List.mem_map.mpr ⟨k.2, List.mem_range.mpr h2, rfl⟩⟩
theorem jobsC_nodup (W : Nat) (m : Nat → Nat) : (jobsC W m).Nodup := by
  unfold jobsC
  refine List.pairwise_flatMap.mpr ⟨fun i _ => ?_, ?_⟩
  · refine List.pairwise_map.mpr (List.nodup_range.imp fun {a b} h e => h ?_)
    exact (Prod.mk.inj e).2
  · refine List.nodup_range.imp fun {a b} h x hx y hy e => ?_
    obtain ⟨j, _, rfl⟩ := List.mem_map.mp hx
    obtain ⟨j', _, rfl⟩ := List.mem_map.mp hy
    exact h (Prod.mk.inj e).1
theorem filter_range (p : Nat → Bool) : ∀ n : Nat, ((List.range n).filter p).length = sumN n fun j => (p j).toNat
  | 0 => rfl
  | n + 1 => by
    rw [List.range_succ, List.filter_append, List.length_append, filter_range p n]
    show _ = sumN n _ + (p n).toNat
    congr 1
    cases c : p n <;> simp [c]
theorem cardC (m : Nat → Nat) (I : Nat × Nat → Bool) : ∀ W : Nat, cardU (jobsC W m) I = sumN W fun i => sumN (m i) fun j => (I (i, j)).toNat
  | 0 => rfl
  | W + 1 => by
    have ih := cardC m I W
    unfold cardU jobsC at ih ⊢
    rw [List.range_succ, List.flatMap_append, List.filter_append, List.length_append, ih]
    show _ = sumN W _ + sumN (m W) _
    congr 1
    rw [List.flatMap_cons, List.flatMap_nil, List.append_nil, List.filter_map, List.length_map, filter_range]; rfl
/-! ## how much of a turn lies in a tick -/
def ovC (e p j t : Nat) : Nat := min ((t + 1) * e) ((j + 1) * p) - max (t * e) (j * p)
def clC (a b x : Nat) : Nat := min b (max a x)
theorem ov_t {e p j t : Nat} : ovC e p j t = clC (j * p) ((j + 1) * p) ((t + 1) * e) - clC (j * p) ((j + 1) * p) (t * e) := by
  unfold ovC clC
  have h1 : (t + 1) * e = t * e + e := by rw [Nat.add_mul]; omega
  have h2 : (j + 1) * p = j * p + p := by rw [Nat.add_mul]; omega
  omega
theorem ov_j {e p j t : Nat} : ovC e p j t = clC (t * e) ((t + 1) * e) ((j + 1) * p) - clC (t * e) ((t + 1) * e) (j * p) := by
  unfold ovC clC
  have h1 : (t + 1) * e = t * e + e := by rw [Nat.add_mul]; omega
  have h2 : (j + 1) * p = j * p + p := by rw [Nat.add_mul]; omega
  omega
theorem cl_up {a b x y : Nat} (h : x ≤ y) : clC a b x ≤ clC a b y := by unfold clC; omega
theorem ov_sum_t {e p j T : Nat} (h : (j + 1) * p ≤ T * e) : sumN T (fun t => ovC e p j t) = p := by
  rw [sumN_congr fun t _ => ov_t, sumN_tele (f := fun t => clC (j * p) ((j + 1) * p) (t * e)) fun t => cl_up (by rw [Nat.add_mul]; omega)]
  have h2 : (j + 1) * p = j * p + p := by rw [Nat.add_mul]; omega
  unfold clC
  rw [Nat.zero_mul]
  omega
theorem ov_sum_j {e p t m : Nat} : sumN m (fun j => ovC e p j t) ≤ e := by
  rw [sumN_congr fun j _ => ov_j, sumN_tele (f := fun j => clC (t * e) ((t + 1) * e) (j * p)) fun j => cl_up (by rw [Nat.add_mul]; omega)]
  have h1 : (t + 1) * e = t * e + e := by rw [Nat.add_mul]; omega
  unfold clC
  rw [Nat.zero_mul]
  omega
/-- the ticks of a turn -/
def winC (e p j t : Nat) : Bool := decide (j * p < (t + 1) * e) && decide (t * e < (j + 1) * p)
theorem ov_win {e p j t : Nat} (h : winC e p j t = false) : ovC e p j t = 0 := by
  unfold winC at h
  unfold ovC
  have h2 : (j + 1) * p = j * p + p := by rw [Nat.add_mul]; omega
  have h1 : (t + 1) * e = t * e + e := by rw [Nat.add_mul]; omega
  rcases Bool.and_eq_false_iff.mp h with z | z
  · have := of_decide_eq_false z; omega
  · have := of_decide_eq_false z; omega
/-! ## all turns have ticks of their own -/
section
variable {n W T : Nat} {e p : Nat → Nat}
def famC (W T : Nat) (e p : Nat → Nat) (k x : Nat × Nat) : Bool := decide (x.1 = k.1) && (decide (x.1 < W) && (decide (x.2 < T) && winC (e k.1) (p k.1) k.2 x.2))
theorem rado_C (hT : 0 < T) (he : ∀ i, i < W → e i ≤ p i) (hd : ∀ i, i < W → p i ∣ T) (fit : sumN W (fun i => e i * (T / p i)) ≤ n * T) : RadoU (jobsC W fun i => e i * (T / p i)) (rankC n W T) (famC W T e p) := by
  intro I
  rw [cardC]
  refine Nat.le_of_mul_le_mul_left (?_ : T * _ ≤ T * _) hT
  have eT : ∀ i, i < W → p i * (T / p i) = T := fun i hi => Nat.mul_div_cancel' (hd i hi)
  -- each turn's share of the ticks
  have each : ∀ i, i < W → ∀ j, j < e i * (T / p i) → sumN T (fun t => ovC (e i) (p i) j t * (T / p i)) = T := fun i hi j hj => by
    have : (j + 1) * p i ≤ T * e i := by
      have h1 := Nat.mul_le_mul_right (p i) (show j + 1 ≤ e i * (T / p i) from hj)
      have h2 : e i * (T / p i) * p i = T * e i := by rw [Nat.mul_assoc, Nat.mul_comm (T / p i), eT i hi, Nat.mul_comm]
      omega
    rw [sumN_congr (g := fun t => (T / p i) * ovC (e i) (p i) j t) fun t _ => Nat.mul_comm _ _, sumN_mul, ov_sum_t this, Nat.mul_comm, eT i hi]
  have step1 : T * sumN W (fun i => sumN (e i * (T / p i)) fun j => (I (i, j)).toNat) = sumN T fun t => sumN W fun i => sumN (e i * (T / p i)) fun j => (I (i, j)).toNat * (ovC (e i) (p i) j t * (T / p i)) := by
    rw [← sumN_mul, sumN_comm (fun t i => sumN (e i * (T / p i)) fun j => (I (i, j)).toNat * (ovC (e i) (p i) j t * (T / p i))) W T]
    refine sumN_congr fun i hi => ?_
    rw [← sumN_mul, sumN_comm (fun t j => (I (i, j)).toNat * (ovC (e i) (p i) j t * (T / p i))) (e i * (T / p i)) T]
    refine sumN_congr fun j hj => ?_
    rw [sumN_mul, each i hi j hj, Nat.mul_comm]
  rw [step1]
  unfold rankC
  rw [← sumN_mul]
  refine sumN_le fun t ht => ?_
  have z1 : ∀ i, i < W → sumN (e i * (T / p i)) (fun j => (I (i, j)).toNat * (ovC (e i) (p i) j t * (T / p i))) ≤ e i * (T / p i) := fun i hi => by
    refine Nat.le_trans (sumN_le (g := fun j => (T / p i) * ovC (e i) (p i) j t) fun j _ => ?_) ?_
    · rw [Nat.mul_comm (T / p i)]
      have := Nat.mul_le_mul_right (ovC (e i) (p i) j t * (T / p i)) (bsum (b := I (i, j)))
      omega
    · rw [sumN_mul, Nat.mul_comm]
      exact Nat.mul_le_mul_right _ ov_sum_j
  have z2 : ∀ i, i < W → sumN (e i * (T / p i)) (fun j => (I (i, j)).toNat * (ovC (e i) (p i) j t * (T / p i))) ≤ T * (unU (jobsC W fun i => e i * (T / p i)) (famC W T e p) I (i, t)).toNat := fun i hi => by
    cases c : unU (jobsC W fun i => e i * (T / p i)) (famC W T e p) I (i, t) with
    | true =>
      refine Nat.le_trans (z1 i hi) ?_
      have : e i * (T / p i) ≤ p i * (T / p i) := Nat.mul_le_mul_right _ (he i hi)
      rw [eT i hi] at this
      simpa using this
    | false =>
      rw [sumN_congr (g := fun _ => 0) fun j hj => ?_, sumN_zero]
      · exact Nat.zero_le _
      · cases q : I (i, j) with
        | false => simp
        | true =>
          have w : winC (e i) (p i) j t = false := by
            cases w : winC (e i) (p i) j t with
            | false => rfl
            | true =>
              have : unU (jobsC W fun i => e i * (T / p i)) (famC W T e p) I (i, t) = true := List.any_eq_true.mpr ⟨(i, j), jobsC_mem.mpr ⟨hi, hj⟩, by simp [famC, q, w, hi, ht]⟩
              rw [c] at this; cases this
          rw [ov_win w]; simp
  have s1 := sumN_le z1
  have s2 := sumN_le z2
  rw [sumN_mul] at s2
  have := Nat.le_trans s1 fit
  rw [Nat.mul_comm n T] at this
  by_cases c : n ≤ sumN W fun i => (unU (jobsC W fun i => e i * (T / p i)) (famC W T e p) I (i, t)).toNat
  · rw [Nat.min_eq_left c]; exact this
  · rw [Nat.min_eq_right (by omega)]; exact s2
/-- so many ticks had a work up to the moment -/
def hadC (m : Nat → Nat) (c : Nat → Nat → Nat) (i t : Nat) : Nat := sumN (m i) fun j => (decide (c i j < t)).toNat
theorem pfair (hT : 0 < T) (he0 : ∀ i, i < W → 0 < e i) (he : ∀ i, i < W → e i ≤ p i) (hd : ∀ i, i < W → p i ∣ T) (fit : sumN W (fun i => e i * (T / p i)) ≤ n * T) :
    ∃ x : Nat → Nat → Nat, (∀ i, i < W → ∀ t, t ≤ T → t * e i / p i ≤ x i t ∧ x i t ≤ (t * e i + p i - 1) / p i) ∧ (∀ i, i < W → ∀ t, t < T → x i t ≤ x i (t + 1) ∧ x i (t + 1) ≤ x i t + 1) ∧ (∀ t, t < T → sumN W (fun i => x i (t + 1) - x i t) ≤ n) := by
  obtain ⟨c, c1, c2⟩ := rado_pick (0, 0) (jobsC_nodup W fun i => e i * (T / p i)) (rankC_ok n W T) (fun S h => rankC_zero h) ((List.range W).flatMap fun i => (List.range T).map fun t => (i, t)) _ (famC W T e p) rfl (fun k x h => by
    unfold famC at h
    simp only [Bool.and_eq_true, decide_eq_true_eq] at h
    exact List.mem_flatMap.mpr ⟨x.1, List.mem_range.mpr h.2.1, List.mem_map.mpr ⟨x.2, List.mem_range.mpr h.2.2.1, rfl⟩⟩) (rado_C hT he hd fit)
  have eT : ∀ i, i < W → p i * (T / p i) = T := fun i hi => Nat.mul_div_cancel' (hd i hi)
  have at_ : ∀ i, i < W → ∀ j, j < e i * (T / p i) → (c (i, j)).1 = i ∧ (c (i, j)).2 < T ∧ j * p i < ((c (i, j)).2 + 1) * e i ∧ (c (i, j)).2 * e i < (j + 1) * p i := fun i hi j hj => by
    have h := c1 (i, j) (jobsC_mem.mpr ⟨hi, hj⟩)
    unfold famC winC at h
    simp only [Bool.and_eq_true, decide_eq_true_eq] at h
    exact ⟨h.1, h.2.2.1, h.2.2.2.1, h.2.2.2.2⟩
  have inc : ∀ i t, hadC (fun i => e i * (T / p i)) (fun i j => (c (i, j)).2) i (t + 1) = hadC (fun i => e i * (T / p i)) (fun i j => (c (i, j)).2) i t + sumN (e i * (T / p i)) fun j => (decide ((c (i, j)).2 = t)).toNat := fun i t => by
    unfold hadC
    rw [← sumN_add]
    refine sumN_congr fun j _ => ?_
    rcases Nat.lt_trichotomy (c (i, j)).2 t with z | z | z
    · rw [decide_eq_true (show (c (i, j)).2 < t + 1 by omega), decide_eq_true z, decide_eq_false (show ¬ (c (i, j)).2 = t by omega)]; rfl
    · rw [decide_eq_true (show (c (i, j)).2 < t + 1 by omega), decide_eq_false (show ¬ (c (i, j)).2 < t by omega), decide_eq_true z]; rfl
    · rw [decide_eq_false (show ¬ (c (i, j)).2 < t + 1 by omega), decide_eq_false (show ¬ (c (i, j)).2 < t by omega), decide_eq_false (show ¬ (c (i, j)).2 = t by omega)]; rfl
  refine ⟨hadC (fun i => e i * (T / p i)) (fun i j => (c (i, j)).2), fun i hi t ht => ?_, fun i hi t ht => ?_, fun t ht => ?_⟩
  · have p0 : 0 < p i := Nat.lt_of_lt_of_le (he0 i hi) (he i hi)
    have top : t * e i / p i ≤ e i * (T / p i) := by
      refine Nat.div_le_of_le_mul ?_
      rw [← Nat.mul_assoc, Nat.mul_comm (p i), Nat.mul_assoc, eT i hi, Nat.mul_comm t]
      exact Nat.mul_le_mul_left _ ht
    constructor
    · refine sumN_ge (fun j hj => ?_) top
      have hj2 : j < e i * (T / p i) := by omega
      obtain ⟨_, _, _, a4⟩ := at_ i hi j hj2
      have : (j + 1) * p i ≤ t * e i := by
        have := Nat.mul_le_mul_right (p i) (show j + 1 ≤ t * e i / p i from hj)
        exact Nat.le_trans this (Nat.div_mul_le_self _ _)
      have lt : (c (i, j)).2 * e i < t * e i := by omega
      rw [decide_eq_true (Nat.lt_of_mul_lt_mul_right lt)]; exact Nat.le_refl _
    · -- a turn that begins later has no tick yet
      have key : hadC (fun i => e i * (T / p i)) (fun i j => (c (i, j)).2) i t = sumN (e i * (T / p i)) (fun j => if j < e i * (T / p i) then (decide ((c (i, j)).2 < t)).toNat else 0) := sumN_congr fun j hj => by rw [if_pos hj]
      rw [key]
      refine (sumN_upto (fun j => ?_) (fun j hj => ?_) _).1
      · split
        · exact bsum
        · exact Nat.zero_le _
      · split
        · rename_i hj2
          obtain ⟨_, _, a3, _⟩ := at_ i hi j hj2
          have : t * e i ≤ j * p i := by
            have h1 := Nat.mul_le_mul_right (p i) hj
            have h2 := Nat.div_add_mod (t * e i + p i - 1) (p i)
            have h3 := Nat.mod_lt (t * e i + p i - 1) p0
            rw [Nat.mul_comm] at h2
            omega
          have lt : t * e i < ((c (i, j)).2 + 1) * e i := by omega
          have := Nat.lt_of_mul_lt_mul_right lt
          rw [decide_eq_false (by omega)]; rfl
        · rfl
  · have one : sumN (e i * (T / p i)) (fun j => (decide ((c (i, j)).2 = t)).toNat) ≤ 1 := by
      have h := c2 fun k => decide (c k = (i, t))
      rw [cardC] at h
      have r1 : rankC n W T (unU (jobsC W fun i => e i * (T / p i)) (fun k x => decide (x = c k)) fun k => decide (c k = (i, t))) ≤ 1 := by
        unfold rankC
        refine Nat.le_trans (sumN_le (g := fun t' => if t' = t then 1 else 0) fun t' _ => ?_) sumN_one
        refine Nat.le_trans (Nat.min_le_right _ _) (Nat.le_trans (sumN_le (g := fun i' => if i' = i then (if t' = t then 1 else 0) else 0) fun i' _ => ?_) sumN_one)
        cases q : unU (jobsC W fun i => e i * (T / p i)) (fun k x => decide (x = c k)) (fun k => decide (c k = (i, t))) (i', t') with
        | false => exact Nat.zero_le _
        | true =>
          obtain ⟨k, _, z⟩ := List.any_eq_true.mp q
          obtain ⟨z1, z2⟩ := Bool.and_eq_true_iff.mp z
          have z3 := of_decide_eq_true z1
          have z4 := of_decide_eq_true z2
          rw [z3] at z4
          obtain ⟨z5, z6⟩ := Prod.mk.inj z4
          rw [if_pos z5, if_pos z6]; exact Nat.le_refl _
      have part : sumN (e i * (T / p i)) (fun j => (decide ((c (i, j)).2 = t)).toNat) ≤ sumN W fun i' => sumN (e i' * (T / p i')) fun j => (decide (c (i', j) = (i, t))).toNat := by
        have le1 : ∀ (f : Nat → Nat) (m : Nat), i < m → f i ≤ sumN m f := fun f m hm => by
          induction m with
          | zero => omega
          | succ m ih =>
            show f i ≤ sumN m f + f m
            by_cases q : i = m
            · subst q; omega
            · have := ih (by omega); omega
        refine Nat.le_trans (sumN_le fun j hj => ?_) (le1 (fun i' => sumN (e i' * (T / p i')) fun j => (decide (c (i', j) = (i, t))).toNat) W hi)
        obtain ⟨a1, _⟩ := at_ i hi j hj
        by_cases q : (c (i, j)).2 = t
        · rw [decide_eq_true q, decide_eq_true (show c (i, j) = (i, t) from Prod.ext a1 q)]; exact Nat.le_refl _
        · rw [decide_eq_false q]; exact Nat.zero_le _
      omega
    have := inc i t
    omega
  · have h := c2 fun k => decide ((c k).2 = t)
    rw [cardC] at h
    have e1 : sumN W (fun i => hadC (fun i => e i * (T / p i)) (fun i j => (c (i, j)).2) i (t + 1) - hadC (fun i => e i * (T / p i)) (fun i j => (c (i, j)).2) i t) = sumN W fun i => sumN (e i * (T / p i)) fun j => (decide ((c (i, j)).2 = t)).toNat := sumN_congr fun i _ => by
      have := inc i t
      omega
    rw [e1]
    refine Nat.le_trans h ?_
    unfold rankC
    refine Nat.le_trans (sumN_le (g := fun t' => if t' = t then n else 0) fun t' _ => ?_) sumN_one
    by_cases q : t' = t
    · rw [if_pos q]; exact Nat.min_le_left _ _
    · rw [if_neg q, sumN_congr (g := fun _ => 0) fun i _ => ?_, sumN_zero]
      · omega
      · cases q2 : unU (jobsC W fun i => e i * (T / p i)) (fun k x => decide (x = c k)) (fun k => decide ((c k).2 = t)) (i, t') with
        | false => rfl
        | true =>
          obtain ⟨k, _, z⟩ := List.any_eq_true.mp q2
          obtain ⟨z1, z2⟩ := Bool.and_eq_true_iff.mp z
          have z3 := of_decide_eq_true z1
          have z4 := of_decide_eq_true z2
          rw [← z4] at z3
          exact absurd z3 q
end
end Ts
namespace Ts
open PySem PySem.Spec PyProof.Rows L2
/-! ## there is a way through the round just if the shares sum to no more than the hands -/
theorem relB_of : ∀ {gs as ss bs : List Bool}, as.length = gs.length → ss.length = gs.length → bs.length = gs.length → (∀ i, i < gs.length → (bs.getD i false).toNat + (gs.getD i false).toNat = (as.getD i false).toNat + (ss.getD i false).toNat) → relB gs as ss bs
  | [], [], [], [], _, _, _, _ => trivial
  | g :: gs, a :: as, s :: ss, b :: bs, h1, h2, h3, h => ⟨h 0 (by simp), relB_of (by simpa using h1) (by simpa using h2) (by simpa using h3) fun i hi => h (i + 1) (by simpa using hi)⟩
  | [], _ :: _, _, _, h, _, _, _ => by cases h
  | [], [], _ :: _, _, _, h, _, _ => by cases h
  | [], [], [], _ :: _, _, _, h, _ => by cases h
  | _ :: _, [], _, _, h, _, _, _ => by cases h
  | _ :: _, _ :: _, [], _, _, h, _, _ => by cases h
  | _ :: _, _ :: _, _ :: _, [], _, _, h, _ => by cases h
theorem subB_of : ∀ {cs ps : List Bool}, ps.length = cs.length → (∀ i, i < cs.length → ps.getD i false = true → cs.getD i false = true) → subB cs ps = true
  | [], [], _, _ => rfl
  | c :: cs, p :: ps, hl, h => by
    refine Bool.and_eq_true_iff.mpr ⟨?_, subB_of (by simpa using hl) fun i hi => h (i + 1) (by simpa using hi)⟩
    have h0 : p = true → c = true := h 0 (by simp)
    cases p with
    | false => rfl
    | true => rw [h0 rfl]; rfl
  | [], _ :: _, h, _ => by cases h
  | _ :: _, [], h, _ => by cases h
def rangeB (W : Nat) (f : Nat → Bool) : List Bool := (List.range W).map f
theorem rangeB_len (W : Nat) (f : Nat → Bool) : (rangeB W f).length = W := by simp [rangeB]
theorem rangeB_at {W i : Nat} (f : Nat → Bool) (h : i < W) : (rangeB W f).getD i false = f i := by
  unfold rangeB
  rw [List.getD_eq_getElem?_getD, List.getElem?_map, List.getElem?_range h]; rfl
theorem rangeB_cnt (f : Nat → Bool) : ∀ W : Nat, cntB (rangeB W f) = sumN W fun i => (f i).toNat
  | 0 => rfl
  | W + 1 => by
    have ih := rangeB_cnt f W
    unfold cntB rangeB at ih ⊢
    rw [List.range_succ, List.map_append, List.filter_append, List.length_append, ih]
    show _ = sumN W _ + (f W).toNat
    congr 1
    cases c : f W <;> simp [c]
def topJ (js : List Job) (i : Nat) : Nat := (js.map fun j => j.2.1).getD i 0
def botJ (js : List Job) (i : Nat) : Nat := (js.map fun j => j.2.2).getD i 0
theorem mapJ_at {js : List Job} {α : Type} (f : Job → α) (d : α) {i : Nat} (h : i < js.length) : ∃ j, js[i]? = some j ∧ j ∈ js ∧ (js.map f).getD i d = f j := ⟨js[i], List.getElem?_eq_getElem h, List.getElem_mem h, by rw [List.getD_eq_getElem?_getD, List.getElem?_map, List.getElem?_eq_getElem h]; rfl⟩
theorem list_sum (l : List Nat) : l.sum = sumN l.length fun i => l.getD i 0 := by
  induction hn : l.length generalizing l with
  | zero => rw [List.length_eq_zero_iff.mp hn]; rfl
  | succ n ih =>
    have hne : l ≠ [] := fun e => by rw [e] at hn; cases hn
    obtain ⟨ys, y, rfl⟩ : ∃ ys y, l = ys ++ [y] := ⟨l.dropLast, l.getLast hne, (List.dropLast_concat_getLast hne).symm⟩
    have hl : ys.length = n := by simpa using hn
    rw [List.sum_append, ih ys hl]
    show _ = sumN n (fun i => (ys ++ [y]).getD i 0) + (ys ++ [y]).getD n 0
    congr 1
    · refine sumN_congr fun i hi => ?_
      rw [List.getD_eq_getElem?_getD, List.getD_eq_getElem?_getD, List.getElem?_append_left (by omega)]
    · rw [List.getD_eq_getElem?_getD, List.getElem?_append_right (by omega), hl, Nat.sub_self]
      simp
theorem low_nat (e p t : Nat) : lowI e p (t : Int) = ((t * e / p : Nat) : Int) := by unfold lowI; norm_cast
theorem high_nat {e p t : Nat} (hp : 0 < p) : highI e p (t : Int) = (((t * e + p - 1) / p : Nat) : Int) := by
  unfold highI
  rw [show ((t : Int) * (e : Int) + (p : Int) - 1) = ((t * e + p - 1 : Nat) : Int) by rw [Int.natCast_sub (by omega)]; norm_cast]
  norm_cast
theorem high_le {e p t : Nat} (hp : 0 < p) : t * e / p ≤ (t * e + p - 1) / p ∧ (t * e + p - 1) / p ≤ t * e / p + 1 := by
  constructor
  · exact Nat.div_le_div_right (by omega)
  · rw [← Nat.add_div_right _ hp]
    exact Nat.div_le_div_right (by omega)
theorem dec_nat {a x : Nat} (h1 : a ≤ x) (h2 : x ≤ a + 1) : (decide (a < x)).toNat = x - a := by
  by_cases c : a < x
  · rw [decide_eq_true c]; simp; omega
  · rw [decide_eq_false c]; simp; omega
theorem liv_fits {js : List Job} (G : Good 16 js) {n : Nat} (fit : partsN js (spanN js) ≤ n * spanN js) : livK js (handsL n js) (spanN js) ≠ 0 := by
  have sp0 := span_pos G
  have hl : (handsL n js).length = spanN js := List.length_replicate
  have tj : ∀ i, i < js.length → ∃ j, js[i]? = some j ∧ j ∈ js ∧ topJ js i = j.2.1 ∧ botJ js i = j.2.2 := fun i hi => by
    obtain ⟨j, h1, h2, h3⟩ := mapJ_at (fun j : Job => j.2.1) 0 hi
    obtain ⟨j', h1', _, h3'⟩ := mapJ_at (fun j : Job => j.2.2) 0 hi
    rw [h1] at h1'
    cases h1'
    exact ⟨j, h1, h2, h3, h3'⟩
  have fit2 : sumN js.length (fun i => topJ js i * (spanN js / botJ js i)) ≤ n * spanN js := by
    refine Nat.le_trans (Nat.le_of_eq ?_) fit
    unfold partsN
    rw [list_sum, List.length_map]
    refine sumN_congr fun i hi => ?_
    obtain ⟨j, h1, _, h3, h4⟩ := tj i hi
    obtain ⟨j', h1', _, h5⟩ := mapJ_at (fun j : Job => j.2.1 * (spanN js / j.2.2)) 0 hi
    rw [h1] at h1'
    cases h1'
    rw [h5, h3, h4]
  obtain ⟨x, x1, x2, x3⟩ := pfair (n := n) (W := js.length) (T := spanN js) (e := topJ js) (p := botJ js) sp0
    (fun i hi => by obtain ⟨j, _, h2, h3, _⟩ := tj i hi; rw [h3]; obtain ⟨g1, g2, _⟩ := G.part j h2; omega)
    (fun i hi => by obtain ⟨j, _, h2, h3, h4⟩ := tj i hi; rw [h3, h4]; exact good_le G j h2)
    (fun i hi => by obtain ⟨j, _, h2, _, h4⟩ := tj i hi; rw [h4]; exact dvd_span h2) fit2
  have pos : ∀ i, i < js.length → 0 < botJ js i := fun i hi => by obtain ⟨j, _, h2, _, h4⟩ := tj i hi; rw [h4]; exact good_pos G j h2
  -- who is ahead
  let bs : Nat → List Bool := fun t => rangeB js.length fun i => decide (t * topJ js i / botJ js i < x i t)
  let ss : Nat → List Bool := fun t => rangeB js.length fun i => decide (x i t < x i (t + 1))
  have lb : ∀ t, (bs t).length = js.length := fun t => rangeB_len _ _
  have sub : ∀ t, t ≤ spanN js → subB (dbB js (t : Int)) (bs t) = true := fun t ht => subB_of ((lb t).trans (dbB_len js _).symm) fun i hi z => by
    rw [dbB_len] at hi
    obtain ⟨j, h1, h2, h3, h4⟩ := tj i hi
    have z : decide (t * topJ js i / botJ js i < x i t) = true := (rangeB_at (fun i => decide (t * topJ js i / botJ js i < x i t)) hi).symm.trans z
    have z := of_decide_eq_true z
    unfold dbB
    obtain ⟨j', h1', _, h5⟩ := mapJ_at (fun j : Job => decide (lowI j.2.1 j.2.2 (t : Int) < highI j.2.1 j.2.2 (t : Int))) false hi
    rw [h1] at h1'
    cases h1'
    rw [h5]
    have y := (x1 i hi t ht).2
    rw [h3, h4] at z y
    refine decide_eq_true ?_
    rw [low_nat, high_nat (good_pos G j h2)]
    exact Int.ofNat_lt.mpr (Nat.lt_of_lt_of_le z y)
  have rel : ∀ t, t < spanN js → relB (grB js (t : Int)) (bs t) (ss t) (bs (t + 1)) := fun t ht => relB_of ((lb t).trans (grB_len js _).symm) ((rangeB_len _ _).trans (grB_len js _).symm) ((lb (t + 1)).trans (grB_len js _).symm) fun i hi => by
    rw [grB_len] at hi
    obtain ⟨j, h1, h2, h3, h4⟩ := tj i hi
    have e1 : (bs t).getD i false = decide (t * topJ js i / botJ js i < x i t) := rangeB_at _ hi
    have e2 : (bs (t + 1)).getD i false = decide ((t + 1) * topJ js i / botJ js i < x i (t + 1)) := rangeB_at _ hi
    have e3 : (ss t).getD i false = decide (x i t < x i (t + 1)) := rangeB_at _ hi
    have e4 : (grB js (t : Int)).getD i false = decide (lowI j.2.1 j.2.2 (t : Int) < lowI j.2.1 j.2.2 ((t : Int) + 1)) := by
      obtain ⟨j', h1', _, h5⟩ := mapJ_at (fun j : Job => decide (lowI j.2.1 j.2.2 (t : Int) < lowI j.2.1 j.2.2 ((t : Int) + 1))) false hi
      rw [h1] at h1'
      cases h1'
      exact h5
    have lg := low_grows (t := (t : Int)) (good_pos G j h2) (good_le G j h2)
    have y1 := x1 i hi t (by omega)
    have y2 := x1 i hi (t + 1) (by omega)
    have y3 := x2 i hi t ht
    have q1 := (high_le (e := topJ js i) (t := t) (pos i hi)).2
    have q2 := (high_le (e := topJ js i) (t := t + 1) (pos i hi)).2
    have ec : ((t : Int) + 1) = ((t + 1 : Nat) : Int) := by omega
    rw [ec, low_nat, low_nat, ← h3, ← h4] at lg
    rw [e1, e2, e3, e4, ec, low_nat, low_nat, ← h3, ← h4, dec_nat y1.1 (by omega), dec_nat y2.1 (by omega), dec_nat y3.1 y3.2]
    generalize (decide (((t * topJ js i / botJ js i : Nat) : Int) < (((t + 1) * topJ js i / botJ js i : Nat) : Int))).toNat = g at lg ⊢
    omega
  have cnt : ∀ t, t < spanN js → cntB (ss t) ≤ n := fun t ht => by
    refine Nat.le_trans (Nat.le_of_eq ?_) (x3 t ht)
    show cntB (rangeB js.length _) = _
    rw [rangeB_cnt]
    refine sumN_congr fun i hi => ?_
    have y3 := x2 i hi t ht
    exact dec_nat y3.1 y3.2
  have chain : ∀ k, k ≤ spanN js → (livK js (handsL n js) k).testBit (numB (bs (spanN js - k))) = true := by
    intro k
    induction k with
    | zero =>
      intro _
      show (possN js.length (doubN js (handsL n js).length)).testBit _ = true
      rw [hl, doub_B, poss_bit (dbB_len js _) (lb _)]
      exact sub _ (Nat.le_refl _)
    | succ k ih =>
      intro hk
      have ih := ih (by omega)
      unfold livK
      rw [hl, hands_getD (by omega), Nat.testBit_and, doub_B, poss_bit (dbB_len js _) (lb _), sub _ (by omega), Bool.and_true]
      rw [show spanN js - k = (spanN js - (k + 1)) + 1 by omega] at ih
      unfold naL
      exact (before_bit (lb _) (grB_len js _) (grow_B js _)).mpr ⟨_, _, rel _ (by omega), cnt _ (by omega), ih⟩
  intro z
  have := chain (spanN js) (Nat.le_refl _)
  rw [z] at this
  simp at this
/-! ### and back -/
theorem addB_sum : ∀ {r : List Int} {ss : List Bool}, r.length = ss.length → (addB r ss).sum = r.sum + (cntB ss : Int)
  | [], [], _ => rfl
  | x :: r, s :: ss, h => by
    show ((x + (s.toNat : Int)) :: addB r ss).sum = (x :: r).sum + _
    rw [List.sum_cons, List.sum_cons, addB_sum (by simpa using h), cntB_cons]
    push_cast
    omega
  | [], _ :: _, h => by cases h
  | _ :: _, [], h => by cases h
def lowSum (js : List Job) (t : Int) : Int := (js.map fun j => lowI j.2.1 j.2.2 t).sum
theorem rowB_sum {t : Int} : ∀ {js : List Job} {bs : List Bool}, bs.length = js.length → lowSum js t ≤ (rowB js t bs).sum
  | [], [], _ => Int.le_refl _
  | j :: js, b :: bs, h => by
    have ih := rowB_sum (t := t) (js := js) (bs := bs) (by simpa using h)
    unfold lowSum at ih ⊢
    show ((lowI j.2.1 j.2.2 t) :: js.map fun j => lowI j.2.1 j.2.2 t).sum ≤ ((lowI j.2.1 j.2.2 t + (b.toNat : Int)) :: rowB js t bs).sum
    rw [List.sum_cons, List.sum_cons]
    omega
  | [], _ :: _, h => by cases h
  | _ :: _, [], h => by cases h
theorem rowB_zero : ∀ {js : List Job} {bs : List Bool}, subB (dbB js 0) bs = true → (∀ j ∈ js, 0 < j.2.2) → (rowB js 0 bs).sum = 0
  | [], [], _, _ => rfl
  | j :: js, b :: bs, h, hp => by
    obtain ⟨h1, h2⟩ := Bool.and_eq_true_iff.mp h
    have ih := rowB_zero h2 fun j hj => hp j (List.mem_cons_of_mem _ hj)
    have l0 : lowI j.2.1 j.2.2 0 = 0 := by unfold lowI; simp
    have h0 : highI j.2.1 j.2.2 0 = 0 := by
      rw [high_eq (hp j List.mem_cons_self), l0]; simp
    show ((lowI j.2.1 j.2.2 0 + (b.toNat : Int)) :: rowB js 0 bs).sum = 0
    rw [List.sum_cons, ih, l0]
    have h1 : (!b || decide (lowI j.2.1 j.2.2 0 < highI j.2.1 j.2.2 0)) = true := h1
    rw [l0, h0] at h1
    cases b with
    | false => simp
    | true => simp at h1
  | [], _ :: _, h, _ => by cases h
  | _ :: _, [], h, _ => by cases h
theorem livR_sum {js : List Job} (G : Good 16 js) {n : Nat} {sets : List (List Int)} (hr : ∀ s, s ∈ sets ↔ s ∈ setsL js.length n) : ∀ k, k ≤ spanN js → ∀ r ∈ livR js sets k, lowSum js (spanN js : Int) ≤ r.sum + ((n * k : Nat) : Int)
  | 0, _, r, h => by
    obtain ⟨bs, d, rfl⟩ := (rows_bits G).mp (show r ∈ rowsR js (spanN js : Int) from h)
    have := rowB_sum (t := (spanN js : Int)) (js := js) (bs := bs) (by rw [← subB_len d, dbB_len])
    simpa using this
  | k + 1, hk, r, h => by
    obtain ⟨h1, h2⟩ := List.mem_filter.mp (show r ∈ (rowsR js _).filter _ from h)
    obtain ⟨s, hs, z⟩ := List.any_eq_true.mp h2
    obtain ⟨ss, l2, c, rfl⟩ := sets_mem.mp ((hr s).mp hs)
    have ih := livR_sum G hr k (by omega) _ (of_decide_eq_true z)
    have lr := rows_each r h1
    rw [plus_B, lr, sB_posI l2, addB_sum (lr.trans l2.symm)] at ih
    have e : ((n * (k + 1) : Nat) : Int) = ((n * k : Nat) : Int) + (n : Int) := by rw [Nat.mul_add]; push_cast; omega
    rw [e]
    omega
theorem low_span {js : List Job} : lowSum js (spanN js : Int) = ((partsN js (spanN js) : Nat) : Int) := by
  have go : ∀ l : List Job, (∀ j ∈ l, j.2.2 ∣ spanN js) → (∀ j ∈ l, True) → (l.map fun j => lowI j.2.1 j.2.2 (spanN js : Int)).sum = ((l.map fun j => j.2.1 * (spanN js / j.2.2)).sum : Nat) := fun l => by
    induction l with
    | nil => intro _ _; rfl
    | cons j l ih =>
      intro h _
      rw [List.map_cons, List.map_cons, List.sum_cons, List.sum_cons, ih (fun j hj => h j (List.mem_cons_of_mem _ hj)) fun _ _ => trivial, low_nat]
      have : spanN js * j.2.1 / j.2.2 = j.2.1 * (spanN js / j.2.2) := by
        rw [Nat.mul_comm]
        exact Nat.mul_div_assoc _ (h j List.mem_cons_self)
      rw [this]
      push_cast; rfl
  exact go js (fun j hj => dvd_span hj) fun _ _ => trivial
theorem fits_liv {js : List Job} (G : Good 16 js) {n : Nat} (h : livK js (handsL n js) (spanN js) ≠ 0) : partsN js (spanN js) ≤ n * spanN js := by
  have hr : ∀ s, s ∈ setsL js.length n ↔ s ∈ setsL js.length n := fun _ => Iff.rfl
  have ne : livR js (setsL js.length n) (spanN js) ≠ [] := fun z => h ((liv_zero G hr).mpr z)
  obtain ⟨r, hm⟩ := List.exists_mem_of_ne_nil _ ne
  have s := livR_sum G hr (spanN js) (Nat.le_refl _) r hm
  have hr0 := livR_rows hm
  rw [show ((spanN js : Int) - (spanN js : Int)) = 0 by omega] at hr0
  obtain ⟨bs, d, rfl⟩ := (rows_bits G).mp hr0
  rw [rowB_zero d (good_pos G), low_span] at s
  omega
theorem liv_iff {js : List Job} (G : Good 16 js) (n : Nat) : livK js (handsL n js) (spanN js) ≠ 0 ↔ partsN js (spanN js) ≤ n * spanN js := ⟨fits_liv G, liv_fits G⟩
end Ts
namespace Ts
open PySem PySem.Spec PyProof.Rows L2
/-! ## what is alive, both ways -/
theorem filter_all {α : Type} (l : List α) : l.filter (fun _ => true) = l := List.filter_eq_self.mpr fun _ _ => rfl
theorem livJ_filter {js : List Job} {sets : List (List Int)} {m : Nat} (hm : m ≤ spanN js) : ∃ p, (livJ js sets).getD m [] = (rowsR js (m : Int)).filter p := by
  unfold livJ
  split
  · refine ⟨fun _ => false, ?_⟩
    rw [List.getD_eq_getElem?_getD, List.getElem?_replicate, if_pos (by omega)]
    simp
  · unfold livT
    rw [List.getD_eq_getElem?_getD, List.getElem?_map, List.getElem?_range (by omega)]
    show ∃ p, livR js sets (spanN js - m) = _
    cases h : spanN js - m with
    | zero =>
      refine ⟨fun _ => true, ?_⟩
      rw [show (m : Int) = (spanN js : Int) by omega, filter_all]; rfl
    | succ k => exact ⟨goB js sets k, by rw [livR_succ, show ((spanN js : Int) - ((k + 1 : Nat) : Int)) = (m : Int) by omega]⟩
theorem db_span {js : List Job} (G : Good 16 js) {t : Int} (ht : t = 0 ∨ t = (spanN js : Int)) {bs : List Bool} (h : subB (dbB js t) bs = true) : numB bs = 0 := by
  have key : ∀ j ∈ js, ¬ lowI j.2.1 j.2.2 t < highI j.2.1 j.2.2 t := fun j hj => by
    have hh := high_eq (e := j.2.1) (t := t) (good_pos G j hj)
    have z : t * (j.2.1 : Int) % (j.2.2 : Int) = 0 := by
      rcases ht with rfl | rfl
      · simp
      · obtain ⟨c, hc⟩ := dvd_span hj
        rw [hc]
        push_cast
        rw [Int.mul_assoc]
        exact Int.mul_emod_right _ _
    rw [if_pos z] at hh
    omega
  have go : ∀ (l : List Job) (bs : List Bool), (∀ j ∈ l, ¬ lowI j.2.1 j.2.2 t < highI j.2.1 j.2.2 t) → subB (dbB l t) bs = true → numB bs = 0 := by
    intro l
    induction l with
    | nil =>
      intro bs _ h
      cases bs with
      | nil => rfl
      | cons _ _ => cases h
    | cons j l ih =>
      intro bs hk h
      cases bs with
      | nil => cases h
      | cons b bs =>
        obtain ⟨h1, h2⟩ := Bool.and_eq_true_iff.mp h
        have h1 : (!b || decide (lowI j.2.1 j.2.2 t < highI j.2.1 j.2.2 t)) = true := h1
        rw [decide_eq_false (hk j List.mem_cons_self)] at h1
        have ih := ih bs (fun j hj => hk j (List.mem_cons_of_mem _ hj)) h2
        cases b with
        | false => show 0 + 2 * numB bs = 0; omega
        | true => cases h1
  exact go js bs key h
theorem liv_one {js : List Job} (G : Good 16 js) {n : Nat} (h : livK js (handsL n js) (spanN js) ≠ 0) : (livK js (handsL n js) (spanN js)).testBit 0 = true := by
  have hr : ∀ s, s ∈ setsL js.length n ↔ s ∈ setsL js.length n := fun _ => Iff.rfl
  refine Classical.byContradiction fun no => h (Nat.eq_of_testBit_eq fun a => ?_)
  rw [Nat.zero_testBit]
  cases c : (livK js (handsL n js) (spanN js)).testBit a with
  | false => rfl
  | true =>
    have ha := liv_big c
    rw [← bitsN_num ha] at c
    have d := ((liv_bit G hr (spanN js) (Nat.le_refl _) _ (bitsN_len _ _)).mp c).1
    rw [show ((spanN js : Int) - (spanN js : Int)) = 0 by omega] at d
    rw [db_span G (.inl rfl) d] at c
    exact absurd c no
end Ts
namespace Ts
open PySem PySem.Spec PyProof.Rows L2
/-! ## ways through the round -/
def wayN (js : List Job) (hs : List Nat) : Nat → Nat → Nat
  | 0, _ => 1
  | k + 1, a => ((choicesN js hs (hs.length - (k + 1)) a).map fun c => wayN js hs k (a + c - growN js (hs.length - (k + 1)))).sum
def keysW (js : List Job) (hs : List Nat) : Nat → List Nat
  | 0 => if aliveB js hs 0 0 = true then [0] else []
  | k + 1 => ((subsN js.length).getD (doubN js (hs.length - (k + 1))) []).filter (aliveB js hs (hs.length - (k + 1)))
/-- each choice: hands as a row of truths, and who is ahead behind it -/
theorem choice_bits {js : List Job} (G : Good 16 js) (l6 : js.length ≤ 6) {n m : Nat} (hm : m < spanN js) {as : List Bool} (la : as.length = js.length) {sets : List (List Int)} (mem : ∀ s, s ∈ sets ↔ s ∈ setsL js.length n) {c : Nat} :
    c ∈ choicesN js (handsL n js) m (numB as) ↔ ∃ cs bs, c = numB cs ∧ cs.length = js.length ∧ bs.length = js.length ∧ relB (grB js (m : Int)) as cs bs ∧ cntB cs ≤ n ∧ subB (dbB js ((m : Int) + 1)) bs = true ∧ rowB js ((m : Int) + 1) bs ∈ (livJ js sets).getD (m + 1) [] := by
  have lb := fun (bs : List Bool) (hb : bs.length = js.length) => livL_bit G mem (m := m + 1) (by omega) hb
  have e1 : ((m + 1 : Nat) : Int) = (m : Int) + 1 := by omega
  rw [e1] at lb
  have ci := choice_iff (n := n) (m := m) (c := c) (as := as) l6 hm la fun bs hb z => ((lb bs hb).mp z).1
  rw [ci]
  constructor
  · rintro ⟨cs, bs, e, r1, c1, z⟩
    obtain ⟨_, l2, l3⟩ := relB_len r1
    rw [grB_len] at l2 l3
    exact ⟨cs, bs, e, l2, l3, r1, c1, (lb bs l3).mp z⟩
  · rintro ⟨cs, bs, e, l2, l3, r1, c1, z⟩
    exact ⟨cs, bs, e, r1, c1, (lb bs l3).mpr z⟩
theorem choices_perm {js : List Job} (G : Good 16 js) (l6 : js.length ≤ 6) {n m : Nat} (hm : m < spanN js) {as : List Bool} (la : as.length = js.length) {sets : List (List Int)} (nd : sets.Nodup) (mem : ∀ s, s ∈ sets ↔ s ∈ setsL js.length n) :
    (crewRows (choicesN js (handsL n js) m (numB as))).Perm (sets.filter fun s => decide (plusR (rowB js (m : Int) as) s ∈ (livJ js sets).getD (m + 1) [])) := by
  have cb := fun c => choice_bits G l6 hm la mem (c := c)
  refine (List.perm_ext_iff_of_nodup ?_ (List.Pairwise.filter _ nd)).mpr fun s => ?_
  · unfold crewRows
    have asc : (choicesN js (handsL n js) m (numB as)).Pairwise (· < ·) := List.Pairwise.filter _ crews_asc
    refine List.pairwise_map.mpr (List.Pairwise.imp_of_mem (fun {x y} hx hy z e => ?_) asc)
    obtain ⟨cs, bs, rfl, g1, _⟩ := (cb x).mp hx
    obtain ⟨cs2, bs2, rfl, g2, _⟩ := (cb y).mp hy
    rw [members_B (by omega), members_B (by omega)] at e
    have := posI_inj (g1.trans g2.symm) e
    subst this
    omega
  · rw [List.mem_filter, mem, sets_mem]
    unfold crewRows
    rw [List.mem_map]
    constructor
    · rintro ⟨c, hc, rfl⟩
      obtain ⟨cs, bs, rfl, g1, g2, r1, c1, _, z⟩ := (cb c).mp hc
      rw [members_B (by omega)]
      refine ⟨⟨cs, g1, c1, rfl⟩, decide_eq_true ?_⟩
      rw [plus_B, rowB_len la, sB_posI g1, (add_rel (good_pos G) (good_le G) la g1 g2).mpr r1]
      exact z
    · rintro ⟨⟨ss, g1, c1, rfl⟩, z⟩
      have z := of_decide_eq_true z
      rw [plus_B, rowB_len la, sB_posI g1] at z
      obtain ⟨p, hp⟩ := livJ_filter (js := js) (sets := sets) (m := m + 1) (by omega)
      have hrow : addB (rowB js (m : Int) as) ss ∈ rowsR js ((m : Int) + 1) := by
        rw [hp] at z
        have := (List.mem_filter.mp z).1
        rwa [show ((m + 1 : Nat) : Int) = (m : Int) + 1 by omega] at this
      obtain ⟨bs, d2, e2⟩ := (rows_bits G).mp hrow
      have g2 : bs.length = js.length := by rw [← subB_len d2, dbB_len]
      have r1 := (add_rel (good_pos G) (good_le G) la g1 g2).mp e2
      rw [e2] at z
      exact ⟨numB ss, (cb _).mpr ⟨ss, bs, rfl, g1, g2, r1, c1, d2, z⟩, members_B (by omega)⟩
end Ts
namespace Ts
open PySem PySem.Spec PyProof.Rows L2
/-! ## dicts of who is ahead, and in how many ways one goes on -/
def natK (f : Nat → Nat) (as : List Nat) : List (L2.Key × V) := as.map fun a : Nat => (Sum.inl (a : Int), V.int (f a : Int))
def waysK (js : List Job) (hs : List Nat) (k : Nat) : List (L2.Key × V) := natK (wayN js hs k) (keysW js hs k)
/-- from the end of the round: the i-th one holds for i ticks ahead of it -/
def WaysTo (H : Hp) (js : List Job) (hs : List Nat) (vs : List V) (k : Nat) : Prop := vs.length = k + 1 ∧ ∀ i, i ≤ k → ∃ d, vs[i]? = some (.ref d) ∧ H d = some (.dK (waysK js hs i))
theorem WaysTo.mono {H H' : Hp} {js : List Job} {hs : List Nat} {vs : List V} {k : Nat} (h : WaysTo H js hs vs k) (s : Same H H') : WaysTo H' js hs vs k := ⟨h.1, fun i hi => let ⟨d, e1, e2⟩ := h.2 i hi; ⟨d, e1, s _ _ e2⟩⟩
theorem WaysTo.snoc {H : Hp} {js : List Job} {hs : List Nat} {vs : List V} {k : Nat} {d : Addr} (h : WaysTo H js hs vs k) (g : H d = some (.dK (waysK js hs (k + 1)))) : WaysTo H js hs (vs ++ [.ref d]) (k + 1) := by
  refine ⟨by rw [List.length_append, h.1]; rfl, fun i hi => ?_⟩
  by_cases c : i ≤ k
  · obtain ⟨d2, e1, e2⟩ := h.2 i c
    exact ⟨d2, by rw [List.getElem?_append_left (by rw [h.1]; omega)]; exact e1, e2⟩
  · have : i = k + 1 := by omega
    subst this
    exact ⟨d, by rw [List.getElem?_append_right (by rw [h.1]; omega), h.1, Nat.sub_self]; rfl, g⟩
def spBehind (K : PySem.W.Frag) (C : Addr) : Sp := fun vs H Q _ => ∃ (a : Addr) (m x c : Nat) (js : List Job) (hs : List Nat), vs = [.ref a, .int (m : Int), .int (x : Int), .int (c : Int)] ∧ WalkAt K C H a js hs ∧ m < hs.length ∧ growN js m ≤ x + c ∧ Q (.int ((x + c - growN js m : Nat) : Int)) H
/-! ## the law's own count -/
/-- pairs (row, number) of a list -/
inductive PairN (f : List Int → Nat) (H : Hp) : List Addr → List (List L2.Key × Addr × V) → List (List Int) → Prop
  | nil : PairN f H [] [] []
  | cons {p a : Addr} {r : List Int} {ps : List Addr} {qs : List (List L2.Key × Addr × V)} {rows : List (List Int)} (h : H p = some (.tup [.ref a, .int (f r : Int)])) (g : H a = some (.tup (r.map V.int))) (t : PairN f H ps qs rows) : PairN f H (p :: ps) ((keyR r, a, .int (f r : Int)) :: qs) (r :: rows)
theorem PairN.mono {f : List Int → Nat} {H H' : Hp} {ps : List Addr} {qs : List (List L2.Key × Addr × V)} {rows : List (List Int)} (h : PairN f H ps qs rows) (s : Same H H') : PairN f H' ps qs rows := by
  induction h with
  | nil => exact .nil
  | cons a b _ ih => exact .cons (s _ _ a) (s _ _ b) ih
theorem PairN.snoc {f : List Int → Nat} {H : Hp} {ps : List Addr} {qs : List (List L2.Key × Addr × V)} {rows : List (List Int)} {p a : Addr} {r : List Int} (h : PairN f H ps qs rows) (e : H p = some (.tup [.ref a, .int (f r : Int)])) (g : H a = some (.tup (r.map V.int))) :
    PairN f H (ps ++ [p]) (qs ++ [(keyR r, a, .int (f r : Int))]) (rows ++ [r]) := by
  induction h with
  | nil => exact .cons e g .nil
  | cons a b _ ih => exact .cons a b ih
end Ts
namespace Ts
open PySem PySem.Spec PyProof.Rows L2
/-! ## a tuple once: itself -/
theorem tup_once (l : Addr) (items : Array Value) (n : Nat) (dd : Option Addr) (sl : Array (Option Value)) (u : Tok) :
    Meets (Builtin.«tuple.__mul__» ⟨[.ref l, .int 1 u], []⟩) (fun _ R s => s.heap.get? l = some { cls := .type "tuple", dict := dd, data := .seq items n, slots := sl } ∧ R (.ok (.ret (Value.ref l))) s) :=
  .of_wp fun prog w A R s h => by
    obtain ⟨hp, g, d, tk, os⟩ := s
    obtain ⟨hl, h⟩ := h
    have f1 := AutoSeq1.idx_int
    have c0 : (decide ((1 : Int) < -(2 ^ 63)) || decide ((1 : Int) ≥ 2 ^ 63)) = false := by decide
    have c1 : (items.isEmpty || (1 : Int) == 1) = true := by simp
    wp_walk using wpAny_loadPart' hl
    exact ⟨_, rfl, h⟩
/-- a tuple so many times, one at least -/
def rRepU (K : PySem.W.Frag) : R2 := fun x y H Q => ∃ (l : Addr) (k : Int) (xs : List V), x = .ref l ∧ y = .int k ∧ SqT K H l xs ∧ xs ≠ [] ∧ 1 ≤ k ∧ k ≤ 1000 ∧ xs.length ≤ 1000 ∧ (k = 1 → Q (.ref l) H) ∧ (2 ≤ k → ∀ p, H p = none → Q (.ref p) (upd H p (.tup (List.replicate k.toNat xs).flatten)))
theorem op_repU {X : Cx} : OpR X (binaryOp .Mult) (rRepU X.K) := by
  intro pins s σ H x y v u Q I rx ry h
  obtain ⟨l, k, xs, rfl, rfl, hT, hne, h1, h2, hz, qa, qb⟩ := h
  by_cases c : k = 1
  · subst c
    cases rx
    obtain ⟨t, rfl⟩ := ry
    obtain ⟨its, r, ⟨⟨cls, dd, data, sl⟩, ho, hc, n, hd⟩, hs⟩ := I.tuple hT
    simp only at hc hd
    subst hc hd
    exact wpAny_binaryOp_repeat_ref (T := "tuple") (U := "int") (by decide) ⟨_, ho, rfl⟩ (fun s' => typeIs_int s' 1 t) noFill_tuple_mul F.fills_int_mul F.slot_int_rmul repeat_tuple F.slot_int_index.lookup
      (call_meets F.slot_int_rmul (typeIs_int s 1 t) F.entry_int_rmul (F.args_int_rmul_2 _ _) (int_rmul_tuple 1 t l its.toArray n dd sl)
        ⟨ho, rfl, ⟨_, ho, rfl⟩, call_meets F.slot_tuple_mul ⟨_, ho, rfl⟩ F.entry_tuple_mul (F.args_tuple_mul_2 _ _) (tup_once l its.toArray n dd sl t) ⟨ho, .ref l, H, I, rfl, qa rfl⟩⟩)
  · exact op_repT pins s σ H (.ref l) (.int k) v u Q I rx ry ⟨l, k, xs, rfl, rfl, hT, hne, by omega, h2, hz, qb (by omega)⟩
end Ts
namespace Ts
open PySem PySem.Spec PyProof.Rows L2
/-! ## any way through the round, and that it is a right table -/
def anyN (js : List Job) (hs : List Nat) : Nat → Nat → Nat → List Nat
  | 0, _, _ => []
  | k + 1, m, a => (choicesN js hs m a).headD 0 :: anyN js hs k (m + 1) (a + (choicesN js hs m a).headD 0 - growN js m)
theorem anyN_len (js : List Job) (hs : List Nat) : ∀ k m a, (anyN js hs k m a).length = k
  | 0, _, _ => rfl
  | k + 1, m, a => by show (anyN js hs k (m + 1) _).length + 1 = k + 1; rw [anyN_len js hs k]
theorem any_some {js : List Job} (G : Good 16 js) (l6 : js.length ≤ 6) {n m : Nat} (hm : m < spanN js) {as : List Bool} (la : as.length = js.length) (d : subB (dbB js (m : Int)) as = true) {sets : List (List Int)} (nd : sets.Nodup) (mem : ∀ s, s ∈ sets ↔ s ∈ setsL js.length n)
    (h : rowB js (m : Int) as ∈ (livJ js sets).getD m []) : (choicesN js (handsL n js) m (numB as)).headD 0 ∈ choicesN js (handsL n js) m (numB as) := by
  have hr : rowB js (m : Int) as ∈ rowsR js (m : Int) := (rows_bits G).mpr ⟨as, d, rfl⟩
  have st := livJ_step hm hr (sets := sets)
  rw [decide_eq_true h] at st
  obtain ⟨s, hs, z⟩ := List.any_eq_true.mp st.symm
  have hmem : s ∈ sets.filter (fun s => decide (plusR (rowB js (m : Int) as) s ∈ (livJ js sets).getD (m + 1) [])) := List.mem_filter.mpr ⟨hs, z⟩
  have := (choices_perm G l6 hm la nd mem).mem_iff.mpr hmem
  obtain ⟨c, hc, _⟩ := List.mem_map.mp this
  cases e : choicesN js (handsL n js) m (numB as) with
  | nil => rw [e] at hc; cases hc
  | cons x l => exact List.mem_cons_self
def rowOf (c : Nat) : List Int := (membersN c).map fun m : Nat => (m : Int)
/-- the table that comes about -/
def tabR (js : List Job) (n : Nat) : List (List Int) := (anyN js (handsL n js) (spanN js) 0 0).map rowOf
theorem num_zeros : ∀ k : Nat, numB (List.replicate k false) = 0
  | 0 => rfl
  | k + 1 => by rw [List.replicate_succ]; show 0 + 2 * numB _ = 0; rw [num_zeros k]
theorem sub_zeros : ∀ cs : List Bool, subB cs (List.replicate cs.length false) = true
  | [] => rfl
  | c :: cs => by rw [List.length_cons, List.replicate_succ]; exact sub_zeros cs
/-- just if the shares sum to no more than the hands -/
theorem alive_fits {js : List Job} (G : Good 16 js) (n : Nat) : aliveB js (handsL n js) 0 0 = decide (partsN js (spanN js) ≤ n * spanN js) := by
  have hl : (handsL n js).length = spanN js := List.length_replicate
  have h2 := liv_iff G n
  unfold aliveB
  rw [← Nat.testBit_eq_decide_div_mod_eq]
  unfold livL
  rw [hl]
  by_cases c : livK js (handsL n js) (spanN js) = 0
  · rw [if_pos c, List.getD_eq_getElem?_getD, List.getElem?_replicate, if_pos (by omega), decide_eq_false (fun z => h2.mpr z c)]; exact Nat.zero_testBit 0
  · rw [if_neg c, List.getD_eq_getElem?_getD, List.getElem?_map, List.getElem?_range (by omega), decide_eq_true (h2.mp c)]
    exact liv_one G c
/-! ## the checker's own look finds it right -/
/-! ## what is asked -/
def spTicksOf (K : PySem.W.Frag) : Sp := fun vs H Q _ => (vs = [.non] ∧ Q .non H) ∨ ∃ (a : Addr) (cs : List Nat), vs = [.ref a] ∧ SqL K H a (natV cs) ∧ (∀ c ∈ cs, c < 128) ∧ cs.length ≤ 1000 ∧
  ∀ (p : Addr) (us : List V) (H' : Hp), H p = none → Same H H' → H' p = some (.tup us) → RowT H' us (cs.map rowOf) → Q (.ref p) H'
/-- a table, or none -/
def TabV (H : Hp) (js : List Job) (n : Nat) (v : V) : Prop := (aliveB js (handsL n js) 0 0 = false ∧ v = .non) ∨ (aliveB js (handsL n js) 0 0 = true ∧ ∃ (p : Addr) (us : List V), v = .ref p ∧ H p = some (.tup us) ∧ RowT H us (tabR js n))
theorem TabV.mono {H H' : Hp} {js : List Job} {n : Nat} {v : V} (h : TabV H js n v) (s : Same H H') : TabV H' js n v := by
  rcases h with h | ⟨h, p, us, e, a, r⟩
  · exact .inl h
  · exact .inr ⟨h, p, us, e, s _ _ a, r.mono s⟩
/-! ## step by step -/
def aN (js : List Job) (hs : List Nat) : Nat → Nat
  | 0 => 0
  | i + 1 => aN js hs i + (choicesN js hs i (aN js hs i)).headD 0 - growN js i
def cN (js : List Job) (hs : List Nat) (i : Nat) : Nat := (choicesN js hs i (aN js hs i)).headD 0
theorem anyN_steps (js : List Job) (hs : List Nat) : ∀ k m, anyN js hs k m (aN js hs m) = (List.range' m k).map (cN js hs)
  | 0, m => rfl
  | k + 1, m => by
    show (choicesN js hs m (aN js hs m)).headD 0 :: anyN js hs k (m + 1) (aN js hs (m + 1)) = _
    rw [anyN_steps js hs k (m + 1), List.range'_succ, List.map_cons]; rfl
/-! ## the law's own look at a table -/
end Ts
namespace Ts
open PySem PySem.Spec PyProof.Rows L2
/-! ## drawn lots that fit -/
theorem need_sumF (s : Nat) : ∀ (l : List Job), (∀ j ∈ l, j.2.2 ∣ 12) → (∀ j ∈ l, j.2.2 ∣ s) → (∀ j ∈ l, 0 < j.2.2) → (l.map fun j => 12 * j.2.1 / j.2.2).sum * s = 12 * partsN l s
  | [], _, _, _ => by simp [partsN]
  | j :: l, h1, h2, h3 => by
    have ih := need_sumF s l (fun x hx => h1 x (List.mem_cons_of_mem _ hx)) (fun x hx => h2 x (List.mem_cons_of_mem _ hx)) fun x hx => h3 x (List.mem_cons_of_mem _ hx)
    obtain ⟨a, ha⟩ := h1 j List.mem_cons_self
    obtain ⟨b, hb⟩ := h2 j List.mem_cons_self
    have hp := h3 j List.mem_cons_self
    have e1 : 12 * j.2.1 / j.2.2 = a * j.2.1 := by rw [ha, Nat.mul_assoc]; exact Nat.mul_div_cancel_left _ hp
    have e2 : s / j.2.2 = b := by rw [hb]; exact Nat.mul_div_cancel_left _ hp
    have e3 : partsN (j :: l) s = j.2.1 * (s / j.2.2) + partsN l s := by simp [partsN]
    rw [List.map_cons, List.sum_cons, Nat.add_mul, ih, e1, e3, e2, Nat.mul_add]
    congr 1
    rw [ha, hb]
    simp only [Nat.mul_assoc, Nat.mul_comm, Nat.mul_left_comm]
theorem need_fitsF {js : List Job} (G : Good 16 js) (D : Div12 js) (n : Nat) : (12 * n < (js.map fun j => 12 * j.2.1 / j.2.2).sum) ↔ ¬ partsN js (spanN js) ≤ n * spanN js := by
  have e := need_sumF (spanN js) js D (fun j hj => dvd_span hj) (good_pos G)
  have s0 := span_pos G
  generalize (js.map fun j => 12 * j.2.1 / j.2.2).sum = N at e ⊢
  rw [Nat.not_le]
  constructor
  · intro h
    have : 12 * n * spanN js < N * spanN js := Nat.mul_lt_mul_of_pos_right h s0
    rw [e, Nat.mul_assoc] at this
    omega
  · intro h
    have : 12 * n * spanN js < N * spanN js := by rw [e, Nat.mul_assoc]; omega
    exact Nat.lt_of_mul_lt_mul_right this
/-- a drawn lot whose shares sum to no more than its hands -/
def spFitJ (K : PySem.W.Frag) : Sp := fun vs H Q _ => ∃ (b : Addr) (m : Nat), vs = [.ref b, .int (m : Int)] ∧ Bas H b ∧ 1 ≤ m ∧ m ≤ 4 ∧
  ∀ (n : Nat) (js : List Job) (p q : Addr) (H' : Hp), 1 ≤ n → n ≤ 6 → 0 < js.length → js.length ≤ m → Good 16 js → Div12 js → partsN js (spanN js) ≤ n * spanN js → But b H H' → Bas H' b → H p = none → H' p = some (.tup [.int (n : Int), .ref q]) → Dp K (hid b H') (.ref q) (jobsD js) → Q (.ref p) H'
end Ts
namespace Ts
open PySem PySem.Spec PyProof.Rows L2 L2H LamX
/-! ## the classes of errors that `_law_sort` tells apart -/
structure Cls9 where
  (l u n r s t a c y : Addr)
abbrev Cls9.list (c : Cls9) : List Addr := [c.l, c.u, c.n, c.r, c.s, c.t, c.a, c.c, c.y]
structure ErrN9 (mg : Str → Option Value) (c : Cls9) (b : Bas3) : Prop where
  NotALot : mg "NotALot" = some (.ref c.l)
  UnknownName : mg "UnknownName" = some (.ref c.u)
  InvalidNumber : mg "InvalidNumber" = some (.ref c.n)
  InvalidRule : mg "InvalidRule" = some (.ref c.r)
  InvalidStanding : mg "InvalidStanding" = some (.ref c.s)
  InvalidTable : mg "InvalidTable" = some (.ref c.t)
  InvalidLates : mg "InvalidLates" = some (.ref c.a)
  InvalidCounts : mg "InvalidCounts" = some (.ref c.c)
  TooMany : mg "TooMany" = some (.ref c.y)
  WrongValue : mg "WrongValue" = some (.ref b.v)
  WrongName : mg "WrongName" = some (.ref b.w)
  NoAnswer : mg "NoAnswer" = some (.ref b.x)
/-- the class at C is the one of the index i -/
structure IsSort (K : PySem.W.Frag) (c : Cls9) (C : Addr) (i : Nat) : Prop where
  i9 : i < 9
  k : ∀ j a, c.list[j]? = some a → PySem.W.kitOne K (.ref C) (.ref a) = some (decide (j = i))
def sortWords : List Str := ["NotALot", "UnknownName", "InvalidNumber", "InvalidRule", "InvalidStanding", "InvalidTable", "InvalidLates", "InvalidCounts", "TooMany"]
def sortField (i : Nat) : Str := if i = 6 ∨ i = 7 then "index" else if i = 8 then "limit" else "given"
def spSort (K : PySem.W.Frag) (c : Cls9) (p : Addr × Obj) : Sp := fun vs H Q _ => ∃ (C : Addr) (i : Nat) (t : Str) (v : V), vs = [.ref p.1] ∧ ExcK K C ∧ ErrAt H p C [(sortField i, v)] ∧ IsSort K c C i ∧ PySem.W.findIn K (.ref C) (sortField i) = some none ∧ sortWords[i]? = some t ∧
  ∀ (l : Addr) (H' : Hp), Same H H' → H' l = some (.tup [.str t, v]) → Q (.ref l) H'
/-- behind the first j looks -/
def SortMid (p L : Addr) (H : Hp) (i : Nat) (t : Str) (v : V) (j : Nat) (σ' : L2.St) (H' : Hp) : Prop := Same H H' ∧ σ' = [some (.ref p), some (.ref L)] ∧ ((j ≤ i ∧ H' L = some (.lst [])) ∨ (i < j ∧ ∃ tp, H' L = some (.lst [.ref tp]) ∧ H' tp = some (.tup [.str t, v])))
/-! ## a call that is caught -/
def CaughtE (K : PySem.W.Frag) (c : Cls9) (b : Bas3) (Q : VK) : XK := fun cls d H' => ∃ (C dd : Addr) (i : Nat) (t : Str) (v : V), cls = .ref C ∧ ExcK K C ∧ IsSort K c C i ∧ sortWords[i]? = some t ∧ PySem.W.exmAny K (.ref C) [.ref b.v, .ref b.w, .ref b.x] = some true ∧
  d = some dd ∧ H' dd = some (.xd [(sortField i, v)]) ∧ PySem.W.findIn K (.ref C) (sortField i) = some none ∧ ∀ (l : Addr) (H2 : Hp), Same H' H2 → H2 l = some (.tup [.str t, v]) → Q (.ref l) H2
def CaughtQ (Q : VK) : VK := fun v H' => ∀ (l : Addr) (H2 : Hp), Same H' H2 → H2 l = some (.tup [.str "let", v]) → Q (.ref l) H2
def TTcaught (K : PySem.W.Frag) (c : Cls9) (b : Bas3) (tl : XK → Hp → VK → Prop) (H : Hp) (Q : VK) : Prop :=
  ∃ (E' : XK) (Q' : VK), tl E' H Q' ∧ (∀ cls d H', E' cls d H' → CaughtE K c b Q cls d H') ∧ ∀ v H', Q' v H' → CaughtQ Q v H'
/-- an error of the class at C, of the index i -/
structure SortI (K : PySem.W.Frag) (c : Cls9) (b : Bas3) (C : Addr) (i : Nat) (t : Str) : Prop where
  ex : ExcK K C
  is : IsSort K c C i
  wd : sortWords[i]? = some t
  an : PySem.W.exmAny K (.ref C) [.ref b.v, .ref b.w, .ref b.x] = some true
  no : PySem.W.findIn K (.ref C) (sortField i) = some none
theorem raise_caught {K : PySem.W.Frag} {c : Cls9} {b : Bas3} {C : Addr} {i : Nat} {t fld : Str} {H : Hp} {v : V} {Q : VK} (h : SortI K c b C i t) (hf : sortField i = fld)
    (q : ∀ (l : Addr) (H2 : Hp), Same H H2 → H2 l = some (.tup [.str t, v]) → Q (.ref l) H2) : Raise1 C fld v H (CaughtE K c b Q) := by
  subst hf
  intro H' d s hd
  exact ⟨C, d, i, t, v, rfl, h.ex, h.is, h.wd, h.an, rfl, upd_same, h.no, fun l H2 s2 e => q l H2 (s.trans ((same_new hd).trans s2)) e⟩
end Ts
namespace Ts
open PySem PySem.Spec PyProof.Rows L2 L2H LamX
/-! ## values that are surely equal, whatever lies in them: the same object, or alike ones -/
mutual
inductive EqV (K : PySem.W.Frag) (H : Hp) : Nat → V → V → Prop
  | ref {n : Nat} (a : Addr) : EqV K H n (.ref a) (.ref a)
  | non {n : Nat} : EqV K H n .non .non
  | bl {n : Nat} (b : Bool) : EqV K H n (.bl b) (.bl b)
  | int {n : Nat} (i : Int) : EqV K H n (.int i) (.int i)
  | str {n : Nat} (t : Str) : EqV K H n (.str t) (.str t)
  | tup {n : Nat} {a b : Addr} {xs ys : List V} : SqT K H a xs → SqT K H b ys → EqVs K H n xs ys → EqV K H (n + 1) (.ref a) (.ref b)
  | lst {n : Nat} {a b : Addr} {xs ys : List V} : SqL K H a xs → SqL K H b ys → EqVs K H n xs ys → EqV K H (n + 1) (.ref a) (.ref b)
inductive EqVs (K : PySem.W.Frag) (H : Hp) : Nat → List V → List V → Prop
  | nil {n : Nat} : EqVs K H n [] []
  | cons {n : Nat} {x y : V} {xs ys : List V} : EqV K H n x y → EqVs K H n xs ys → EqVs K H n (x :: xs) (y :: ys)
end
theorem EqVs.length {K : PySem.W.Frag} {H : Hp} {n : Nat} : ∀ {xs ys : List V}, EqVs K H n xs ys → xs.length = ys.length
  | _, _, .nil => rfl
  | _, _, .cons _ t => by rw [List.length_cons, List.length_cons, EqVs.length t]
theorem EqVs.get {K : PySem.W.Frag} {H : Hp} {n : Nat} : ∀ {xs ys : List V} {j : Nat} {x y : V}, EqVs K H n xs ys → xs[j]? = some x → ys[j]? = some y → EqV K H n x y
  | _, _, 0, _, _, .cons h _, e, f => by cases e; cases f; exact h
  | _, _, j + 1, _, _, .cons _ t, e, f => EqVs.get (j := j) t e f
  | _, _, _, _, _, .nil, e, _ => by simp at e
/-- of scalars and of one object -/
theorem EqV.refl {K : PySem.W.Frag} {H : Hp} {n : Nat} {v : V} (h : (∃ a, v = .ref a) ∨ v = .non ∨ (∃ b, v = .bl b) ∨ (∃ i, v = .int i) ∨ ∃ t, v = .str t) : EqV K H n v v := by
  rcases h with ⟨a, rfl⟩ | rfl | ⟨b, rfl⟩ | ⟨i, rfl⟩ | ⟨t, rfl⟩
  · exact .ref a
  · exact .non
  · exact .bl b
  · exact .int i
  · exact .str t
theorem vals_at {xs : List V} {us : List Value} (h : Vals xs us) {j : Nat} (hj : j < us.length) : ∃ x, xs[j]? = some x ∧ RelV x us[j] := by
  induction h generalizing j with
  | nil => cases hj
  | cons r t ih =>
    cases j with
    | zero => exact ⟨_, rfl, r⟩
    | succ j => exact ih (by simpa using hj)
section
variable {X : Cx} {pins : List (Addr × Obj)} {σ : L2.St} {H : Hp} {s : Shared}
theorem eqv_at (I : Inv X pins σ H s) : ∀ (n : Nat) (A : Around) (x y : V) (v u : Value), EqV X.K H n x y → RelV x v → RelV y u → A.units + n < cLine → SeqAt.EqAt A s v u true := by
  intro n
  induction n with
  | zero =>
    intro A x y v u h rv ru hu
    cases h with
    | ref a => cases rv; cases ru; exact .same _
    | non => cases rv; cases ru; exact .same _
    | bl b => cases rv; cases ru; exact .same _
    | int i =>
      obtain ⟨t, rfl⟩ := rv
      obtain ⟨t', rfl⟩ := ru
      have := SeqAt.EqAt.int_int (A := A) (s := s) i t i t'
      rwa [beq_self_eq_true] at this
    | str x =>
      obtain ⟨t, rfl⟩ := rv
      obtain ⟨t', rfl⟩ := ru
      have := SeqAt.EqAt.str_str (A := A) (s := s) x t x t'
      rwa [beq_self_eq_true] at this
  | succ n ih =>
    intro A x y v u h rv ru hu
    cases h with
    | ref a => cases rv; cases ru; exact .same _
    | non => cases rv; cases ru; exact .same _
    | bl b => cases rv; cases ru; exact .same _
    | int i =>
      obtain ⟨t, rfl⟩ := rv
      obtain ⟨t', rfl⟩ := ru
      have := SeqAt.EqAt.int_int (A := A) (s := s) i t i t'
      rwa [beq_self_eq_true] at this
    | str x =>
      obtain ⟨t, rfl⟩ := rv
      obtain ⟨t', rfl⟩ := ru
      have := SeqAt.EqAt.str_str (A := A) (s := s) x t x t'
      rwa [beq_self_eq_true] at this
    | @tup _ a b xs ys ha hb he =>
      cases rv; cases ru
      obtain ⟨its, rx, ⟨o, ho, hc, k, hd⟩, _⟩ := I.tuple ha
      obtain ⟨its', ry, ⟨o', ho', hc', k', hd'⟩, _⟩ := I.tuple hb
      have l1 := he.length
      have l2 := rx.length
      have l3 := ry.length
      by_cases e : a = b
      · subst e; exact .same _
      · have := SeqAt.RcAt.tuples (A := A) (e := fun _ => true) ⟨o, ho, hc, k, hd⟩ ⟨o', ho', hc', k', hd'⟩ (by omega) (fun j h1 h2 => by
          have h1' : j < its.length := by simpa using h1
          have h2' : j < its'.length := by simpa using h2
          obtain ⟨x, ex, r1⟩ := vals_at rx h1'
          obtain ⟨y, ey, r2⟩ := vals_at ry h2'
          have hu' : A.in1.units + n < cLine := by show A.units + 1 + n < cLine; omega
          have := ih A.in1 x y _ _ (he.get ex ey) r1 r2 hu'
          simpa using this)
        have e2 : ((List.range (min its.toArray.size its'.toArray.size)).all (fun _ => true) && its.toArray.size == its'.toArray.size) = true := by
          rw [Bool.and_eq_true]
          refine ⟨by simp, ?_⟩
          simp
          omega
        rw [e2] at this
        exact .of_refs e this
    | @lst _ a b xs ys ha hb he =>
      cases rv; cases ru
      obtain ⟨its, rx, ⟨o, k, ho, hc, _, hd⟩, _⟩ := I.list ha
      obtain ⟨its', ry, ⟨o', k', ho', hc', _, hd'⟩, _⟩ := I.list hb
      have l1 := he.length
      have l2 := rx.length
      have l3 := ry.length
      by_cases e : a = b
      · subst e; exact .same _
      · have := SeqAt.RcAt.lists (A := A) (e := fun _ => true) ⟨o, ho, hc, k, hd⟩ ⟨o', ho', hc', k', hd'⟩ (by simp; omega) (by omega) (fun j h1 h2 => by
          have h1' : j < its.length := by simpa using h1
          have h2' : j < its'.length := by simpa using h2
          obtain ⟨x, ex, r1⟩ := vals_at rx h1'
          obtain ⟨y, ey, r2⟩ := vals_at ry h2'
          have hu' : A.in1.units + n < cLine := by show A.units + 1 + n < cLine; omega
          have := ih A.in1 x y _ _ (he.get ex ey) r1 r2 hu'
          simpa using this)
        have e2 : (List.range its.toArray.size).all (fun _ => true) = true := by simp
        rw [e2] at this
        exact .of_refs e this
end
/-- two tuples or two lists that are surely equal -/
def SameIn (K : PySem.W.Frag) (H : Hp) (x y : V) : Prop := ∃ (a b : Addr) (xs ys : List V) (n : Nat), x = .ref a ∧ y = .ref b ∧ n ≤ 60 ∧ ((SqT K H a xs ∧ SqT K H b ys) ∨ (SqL K H a xs ∧ SqL K H b ys)) ∧ EqVs K H n xs ys
def rNeS (K : PySem.W.Frag) : R2 := fun x y H Q => SameIn K H x y ∧ Q (.bl false) H
section
variable {X : Cx}
theorem op_neS (hu : X.A.units + 64 < cLine) : OpR X (compareOp .NotEq) (rNeS X.K) := by
  intro pins s σ H x y v u Q I rx ry h
  obtain ⟨⟨a, b, xs, ys, n, rfl, rfl, hn, hs, he⟩, q⟩ := h
  cases rx; cases ry
  have item : ∀ {its its' : List Value}, Vals xs its → Vals ys its' → ∀ j (h1 : j < its.toArray.size) (h2 : j < its'.toArray.size), SeqAt.EqAt X.A.in1 s its.toArray[j] its'.toArray[j] true := fun {its its'} rx ry j h1 h2 => by
    have h1' : j < its.length := by simpa using h1
    have h2' : j < its'.length := by simpa using h2
    obtain ⟨x, ex, r1⟩ := vals_at rx h1'
    obtain ⟨y, ey, r2⟩ := vals_at ry h2'
    have hu' : X.A.in1.units + n < cLine := by show X.A.units + 1 + n < cLine; omega
    have := eqv_at I n X.A.in1 x y _ _ (he.get ex ey) r1 r2 hu'
    simpa using this
  rcases hs with ⟨ha, hb⟩ | ⟨ha, hb⟩
  · obtain ⟨its, rx, ⟨o, ho, hc, k, hd⟩, _⟩ := I.tuple ha
    obtain ⟨its', ry, ⟨o', ho', hc', k', hd'⟩, _⟩ := I.tuple hb
    have l1 := he.length
    have l2 := rx.length
    have l3 := ry.length
    have e2 : (!((List.range (min its.toArray.size its'.toArray.size)).all (fun _ => true) && its.toArray.size == its'.toArray.size)) = false := by
      rw [Bool.not_eq_false', Bool.and_eq_true]
      refine ⟨by simp, ?_⟩
      simp
      omega
    have := SeqAt.RcNeAt.tuples (A := X.A) (e := fun _ => true) ⟨o, ho, hc, k, hd⟩ ⟨o', ho', hc', k', hd'⟩ (by omega) (item rx ry)
    rw [e2] at this
    exact this _ _ _ _ ⟨.bl _, H, I, rfl, q⟩
  · obtain ⟨its, rx, ⟨o, k, ho, hc, _, hd⟩, _⟩ := I.list ha
    obtain ⟨its', ry, ⟨o', k', ho', hc', _, hd'⟩, _⟩ := I.list hb
    have l1 := he.length
    have l2 := rx.length
    have l3 := ry.length
    have e2 : (!(List.range its.toArray.size).all (fun _ => true)) = false := by simp
    have := SeqAt.RcNeAt.lists (A := X.A) (e := fun _ => true) ⟨o, ho, hc, k, hd⟩ ⟨o', ho', hc', k', hd'⟩ (by simp; omega) (by omega) (item rx ry)
    rw [e2] at this
    exact this _ _ _ _ ⟨.bl _, H, I, rfl, q⟩
end
/-! ## a tuple of one, so many times -/
end Ts
namespace Ts
open PySem PySem.Spec PyProof.Rows L2 L2H LamX
/-! ## what is never come to -/
/-! ## questions that are refused -/
/-! ## lists of what was caught -/
def Flat (v : V) : Prop := (∃ a, v = .ref a) ∨ v = .non ∨ (∃ b, v = .bl b) ∨ (∃ i, v = .int i) ∨ ∃ t, v = .str t
inductive PairsV (H : Hp) : List V → List (Str × V) → Prop
  | nil : PairsV H [] []
  | cons {x : V} {w : Str × V} {xs : List V} {ws : List (Str × V)} : (∃ p, x = .ref p ∧ H p = some (.tup [.str w.1, w.2])) → PairsV H xs ws → PairsV H (x :: xs) (w :: ws)
theorem PairsV.imp {H H' : Hp} (h : ∀ p vs, H p = some (.tup vs) → H' p = some (.tup vs)) : ∀ {xs : List V} {ws : List (Str × V)}, PairsV H xs ws → PairsV H' xs ws
  | _, _, .nil => .nil
  | _, _, .cons ⟨p, e, hp⟩ t => .cons ⟨p, e, h _ _ hp⟩ (t.imp h)
theorem PairsV.ext {H H' : Hp} {xs : List V} {ws : List (Str × V)} (h : PairsV H xs ws) (x : ExtN H H') : PairsV H' xs ws := h.imp fun _ _ e => x _ _ e fun _ z => by cases z
theorem PairsV.mono {H H' : Hp} {xs : List V} {ws : List (Str × V)} (h : PairsV H xs ws) (x : Same H H') : PairsV H' xs ws := h.imp fun _ _ e => x _ _ e
theorem PairsV.snoc {H : Hp} {x : V} {w : Str × V} (hx : ∃ p, x = .ref p ∧ H p = some (.tup [.str w.1, w.2])) : ∀ {xs : List V} {ws : List (Str × V)}, PairsV H xs ws → PairsV H (xs ++ [x]) (ws ++ [w])
  | _, _, .nil => .cons hx .nil
  | _, _, .cons h t => .cons h (t.snoc hx)
theorem PairsV.length {H : Hp} : ∀ {xs : List V} {ws : List (Str × V)}, PairsV H xs ws → xs.length = ws.length
  | _, _, .nil => rfl
  | _, _, .cons _ t => by rw [List.length_cons, List.length_cons, t.length]
theorem PairsV.rep {H : Hp} {x : V} {w : Str × V} (hx : ∃ p, x = .ref p ∧ H p = some (.tup [.str w.1, w.2])) : ∀ n : Nat, PairsV H (List.replicate n x) (List.replicate n w)
  | 0 => .nil
  | n + 1 => .cons hx (PairsV.rep hx n)
theorem PairsV.take {H : Hp} : ∀ (n : Nat) {xs : List V} {ws : List (Str × V)}, PairsV H xs ws → PairsV H (xs.take n) (ws.take n)
  | 0, _, _, _ => .nil
  | _ + 1, _, _, .nil => .nil
  | n + 1, _, _, .cons h t => .cons h (t.take n)
theorem PairsV.get {H : Hp} : ∀ {xs : List V} {ws : List (Str × V)} {i : Nat} {w : Str × V}, PairsV H xs ws → ws[i]? = some w → ∃ p, xs[i]? = some (.ref p) ∧ H p = some (.tup [.str w.1, w.2])
  | _, _, 0, _, .cons ⟨p, e, h⟩ _, z => by cases z; exact ⟨p, congrArg some e, h⟩
  | _, _, i + 1, _, .cons _ t, z => t.get (i := i) z
  | _, _, _, _, .nil, z => by simp at z
theorem pair_eq {K : PySem.W.Frag} {H : Hp} {p q : Addr} {t : Str} {u v : V} (h1 : H p = some (.tup [.str t, u])) (h2 : H q = some (.tup [.str t, v])) (e : EqV K H 1 u v) : EqV K H 2 (.ref p) (.ref q) :=
  .tup (SqT.of h1) (SqT.of h2) (.cons (.str t) (.cons e .nil))
theorem PairsV.eqs {K : PySem.W.Frag} {H : Hp} : ∀ {xs ys : List V} {ws : List (Str × V)}, PairsV H xs ws → PairsV H ys ws → (∀ w ∈ ws, Flat w.2) → EqVs K H 2 xs ys
  | _, _, _, .nil, .nil, _ => .nil
  | _, _, _, .cons ⟨p, e1, h1⟩ t1, .cons ⟨q, e2, h2⟩ t2, h => by
    subst e1 e2
    exact .cons (pair_eq h1 h2 (EqV.refl (h _ List.mem_cons_self))) (t1.eqs t2 fun w hw => h w (List.mem_cons_of_mem _ hw))
structure Told (T : List (Addr × Str)) (H0 Hn : Hp) (lt : Addr) (xs : List V) (ws : List (Str × V)) : Prop where
  x : ExtN H0 Hn
  T : Tabs T Hn
  l : Hn lt = some (.lst xs)
  ps : PairsV Hn xs ws
  nw : ∀ o, H0 lt = some o → ∃ q, o = .tbl q
theorem Told.first {T : List (Addr × Str)} {lt l1 : Addr} {H0 H6 H7 : Hp} {w : Str × V} (x : ExtN H0 H6) (T6 : Tabs T H6) (s7 : Same H6 H7) (g : H7 l1 = some (.tup [.str w.1, w.2])) (hl : H7 lt = none) :
    Told T H0 (upd H7 lt (.lst [.ref l1])) lt [.ref l1] [w] := by
  have sn : Same H7 (upd H7 lt (.lst [.ref l1])) := same_new hl
  refine ⟨(x.trans (ExtN.of s7)).trans (ExtN.of sn), (T6.ext s7).ext sn, upd_same, .cons ⟨l1, rfl, sn _ _ g⟩ .nil, fun o e => ?_⟩
  by_cases c : ∃ q, o = .tbl q
  · exact c
  · have := s7 _ _ (x _ _ e fun q z => c ⟨q, z⟩)
    rw [hl] at this; cases this
theorem Told.next {T : List (Addr × Str)} {lt l : Addr} {H0 Hn H6 H7 : Hp} {xs : List V} {ws : List (Str × V)} {w : Str × V} (h : Told T H0 Hn lt xs ws) (x : ExtN Hn H6) (T6 : Tabs T H6) (s7 : Same H6 H7) (g : H7 l = some (.tup [.str w.1, w.2])) :
    Told T H0 (upd H7 lt (.lst (xs ++ [.ref l]))) lt (xs ++ [.ref l]) (ws ++ [w]) := by
  have x7 := x.trans (ExtN.of s7)
  have hl : H7 lt = some (.lst xs) := x7 _ _ h.l fun _ z => by cases z
  have nt : ∀ p vs, H7 p = some (.tup vs) → (upd H7 lt (.lst (xs ++ [.ref l]))) p = some (.tup vs) := fun p vs e => by
    rw [upd_ne (fun z => by rw [z, hl] at e; cases e)]; exact e
  refine ⟨fun a o e n => ?_, tabs_lst (T6.ext s7) hl But.set, upd_same, ((h.ps.ext x7).imp nt).snoc ⟨l, rfl, nt _ _ g⟩, h.nw⟩
  rw [upd_ne (fun z => by subst z; obtain ⟨q, z2⟩ := h.nw _ e; exact n q z2)]
  exact (h.x.trans x7) a o e n
theorem caught_by {K : PySem.W.Frag} {c : Cls9} {b : Bas3} {tl : XK → Hp → VK → Prop} {H : Hp} {Q : VK} (h : tl (CaughtE K c b Q) H (CaughtQ Q)) : TTcaught K c b tl H Q := ⟨_, _, h, fun _ _ _ z => z, fun _ _ z => z⟩
/-! ## what the law asks -/
def spOddJ (K : PySem.W.Frag) : Sp := fun vs H Q _ => ∃ b : Addr, vs = [.ref b] ∧ Bas H b ∧ ∀ v H', But b H H' → Bas H' b → NoLot K (hid b H') v → Flat v → Q v H'
/-! ## what stays whatever is drawn or caught -/
theorem hid_hid2 {b : Addr} {H : Hp} : ExtN (hid b H) (hid2 b H) := fun a o e n => by
  have hb : a ≠ b := fun z => by
    subst z
    have : hid a H a = none := by unfold hid; rw [if_pos rfl]
    rw [this] at e; cases e
  exact hid2_of hb n ((hid_ne hb).symm.trans e)
structure St34 (K : PySem.W.Frag) (C b x : Addr) (n : Nat) (js : List Job) (v : V) (H : Hp) : Prop where
  B : Bas H b
  L : LotAt K C (hid2 b H) x n js
  N : NoLot K (hid2 b H) v
theorem St34.step {K : PySem.W.Frag} {C b x : Addr} {n : Nat} {js : List Job} {v : V} {H H' : Hp} (h : St34 K C b x n js v H) (e : Ext2 b H H') (B : Bas H' b) : St34 K C b x n js v H' := ⟨B, h.L.mono e.hid, h.N.mono e.hid⟩
theorem St34.same {K : PySem.W.Frag} {C b x : Addr} {n : Nat} {js : List Job} {v : V} {H H' : Hp} (h : St34 K C b x n js v H) (s : Same H H') : St34 K C b x n js v H' := h.step (Ext2.same s) (h.B.on s)
theorem St34.ext {K : PySem.W.Frag} {C b x : Addr} {n : Nat} {js : List Job} {v : V} {H H' : Hp} (h : St34 K C b x n js v H) (s : ExtN H H') : St34 K C b x n js v H' := h.step (Ext2.ext s) (h.B.ext s)
theorem flat_rep {α : Type} (x : α) : ∀ n : Nat, (List.replicate n [x]).flatten = List.replicate n x
  | 0 => rfl
  | n + 1 => by rw [List.replicate_succ, List.flatten_cons, flat_rep x n, List.replicate_succ]; rfl
/-- what was told against [(w, u)] * k -/
theorem ne_rep {K : PySem.W.Frag} {Hn : Hp} {lt p0 p1 p2 : Addr} {xs : List V} {w : Str} {u : V} {k : Int} (l : Hn lt = some (.lst xs)) (ps : PairsV Hn xs (List.replicate k.toNat (w, u))) (fl : Flat u) (h0 : Hn p0 = none) (h1 : (upd Hn p0 (.tup [.str w, u])) p1 = none) (h2 : (upd (upd Hn p0 (.tup [.str w, u])) p1 (.lst [.ref p0])) p2 = none) :
    Same Hn (upd (upd (upd Hn p0 (.tup [.str w, u])) p1 (.lst [.ref p0])) p2 (.lst (List.replicate k.toNat [V.ref p0]).flatten)) ∧ SameIn K (upd (upd (upd Hn p0 (.tup [.str w, u])) p1 (.lst [.ref p0])) p2 (.lst (List.replicate k.toNat [V.ref p0]).flatten)) (.ref lt) (.ref p2) := by
  have s := (same_new (o := .tup [.str w, u]) h0).trans ((same_new (o := .lst [.ref p0]) h1).trans (same_new (o := .lst (List.replicate k.toNat [V.ref p0]).flatten) h2))
  have e0 : (upd (upd (upd Hn p0 (.tup [.str w, u])) p1 (.lst [.ref p0])) p2 (.lst (List.replicate k.toNat [V.ref p0]).flatten)) p0 = some (.tup [.str w, u]) := ((same_new h1).trans (same_new h2)) _ _ upd_same
  refine ⟨s, lt, p2, xs, List.replicate k.toNat (.ref p0), 2, rfl, rfl, by decide, .inr ⟨SqL.of (s _ _ l), SqL.of (by rw [upd_same, flat_rep])⟩, PairsV.eqs (ps.mono s) (PairsV.rep (w := (w, u)) ⟨p0, rfl, e0⟩ _) fun z hz => ?_⟩
  rw [List.eq_of_mem_replicate hz]; exact fl
def Bad34 (K : PySem.W.Frag) (H : Hp) (js : List Job) (v : V) : Prop := ∃ o, AnyV K H v o ∧ stB js 0 o = false ∧ Flat v
theorem Bad34.mono {K : PySem.W.Frag} {H H' : Hp} {js : List Job} {v : V} (h : Bad34 K H js v) (s : Same H H') : Bad34 K H' js v := by
  obtain ⟨o, h1, h2, h3⟩ := h
  exact ⟨o, h1.mono s, h2, h3⟩
theorem Bad34.ext {K : PySem.W.Frag} {H H' : Hp} {js : List Job} {v : V} (h : Bad34 K H js v) (s : ExtN H H') : Bad34 K H' js v := by
  obtain ⟨o, h1, h2, h3⟩ := h
  exact ⟨o, h1.ext s, h2, h3⟩
end Ts
namespace Ts
open PySem PySem.Spec PyProof.Rows L2
/-! ## sorted(t), t a tuple of alike data -/
/-- (v,) * k: so many times the same -/
def rRep1 (K : PySem.W.Frag) : R2 := fun x y H Q => ∃ (l : Addr) (k : Nat) (v : V), x = .ref l ∧ y = .int (k : Int) ∧ SqT K H l [v] ∧ 1 ≤ k ∧ k ≤ 1000 ∧ ∀ p H', Same H H' → SqT K H' p (List.replicate k v) → Q (.ref p) H'
theorem op_rep1 {X : Cx} {K : PySem.W.Frag} (hK : X.K = K) : OpR X (binaryOp .Mult) (rRep1 K) := by
  subst hK
  intro pins s σ H x y v u Q I rx ry h
  obtain ⟨l, k, z, rfl, rfl, hT, h1, h2, q⟩ := h
  refine op_repU pins s σ H (.ref l) (.int (k : Int)) v u Q I rx ry ⟨l, (k : Int), [z], rfl, rfl, hT, (fun z => by cases z), by omega, by omega, by show 1 ≤ 1000; decide, fun e => q l H (fun _ _ h => h) ?_, fun _ p hp => q p _ (same_new hp) (SqT.of ?_)⟩
  · have : k = 1 := by omega
    subst this
    exact hT
  · rw [upd_same, Int.toNat_natCast, List.flatten_replicate_singleton]
end Ts
namespace Ts
open PySem PySem.Spec PyProof.Rows L2
/-! ## a tuple of one, any number of times -/
theorem tuple_mul0 (l : Addr) (items : Array Value) (n : Nat) (dd : Option Addr) (sl : Array (Option Value)) (u : Tok) (hi : items.isEmpty = false) :
    Meets (Builtin.«tuple.__mul__» ⟨[.ref l, .int 0 u], []⟩) (fun _ R s => s.heap.get? l = some { cls := .type "tuple", dict := dd, data := .seq items n, slots := sl } ∧
      R (.ok (.ret (Value.ref s.heap.objs.size))) { s with heap := s.heap.push { cls := Value.type "tuple", data := Data.seq #[] }, toks := s.toks }) :=
  .of_wp fun prog w A R s h => by
    obtain ⟨hp, g, d, tk, os⟩ := s
    obtain ⟨hl, h⟩ := h
    have f1 := AutoSeq1.idx_int
    have c0 : (decide ((0 : Int) < -(2 ^ 63)) || decide ((0 : Int) ≥ 2 ^ 63)) = false := by decide +kernel
    have c1 : (items.isEmpty || (0 : Int) == 1) = false := by rw [hi]; rfl
    have c2 : (decide ((0 : Int) ≤ 0) || items.isEmpty) = true := rfl
    wp_walk using wpAny_loadPart' hl
    repeat (first
      | (refine wpAny_ite_false (decide_eq_false (by rw [c0]; exact Bool.false_ne_true)) ?_; wp_walk using wpAny_loadPart' hl)
      | (refine wpAny_ite_false (decide_eq_false (by rw [c1]; exact Bool.false_ne_true)) ?_; wp_walk using wpAny_loadPart' hl)
      | (refine wpAny_ite_true (decide_eq_true c2) ?_; wp_walk using wpAny_loadPart' hl))
    all_goals exact ⟨_, rfl, h⟩
/-- (v,) * k: so many times the same, none as well -/
def rRepN (K : PySem.W.Frag) : R2 := fun x y H Q => ∃ (l : Addr) (k : Nat) (v : V), x = .ref l ∧ y = .int (k : Int) ∧ SqT K H l [v] ∧ k ≤ 1000 ∧ ∀ p H', Same H H' → SqT K H' p (List.replicate k v) → Q (.ref p) H'
theorem op_repN {X : Cx} {K : PySem.W.Frag} (hK : X.K = K) : OpR X (binaryOp .Mult) (rRepN K) := by
  intro pins s σ H x y v u Q I rx ry h
  obtain ⟨m, k, z, rfl, rfl, hT, h2, q⟩ := h
  by_cases k0 : k = 0
  · subst k0
    subst hK
    cases rx
    obtain ⟨tk, rfl⟩ := ry
    obtain ⟨us, ru, ⟨⟨cl, dx, dat, slo⟩, hob, hcl, cap, hda⟩, hsz⟩ := I.tuple hT
    simp only at hcl hda
    subst hcl hda
    obtain ⟨w, rfl, rw1⟩ := vals1 ru
    refine wpAny_binaryOp_repeat_ref (T := "tuple") (U := "int") (by decide) ⟨_, hob, rfl⟩ (fun s' => typeIs_int s' _ tk) noFill_tuple_mul F.fills_int_mul F.slot_int_rmul repeat_tuple F.slot_int_index.lookup ?_
    refine call_meets F.slot_int_rmul (typeIs_int s _ tk) F.entry_int_rmul (F.args_int_rmul_2 _ _) (int_rmul_tuple _ tk m [w].toArray cap dx slo) ⟨hob, rfl, ⟨_, hob, rfl⟩, ?_⟩
    refine call_meets F.slot_tuple_mul ⟨_, hob, rfl⟩ F.entry_tuple_mul (F.args_tuple_mul_2 _ _) (tuple_mul0 m [w].toArray cap dx slo tk rfl) ⟨hob, ?_⟩
    have hn : H s.heap.objs.size = none := I.hok.fresh (Nat.le_refl _)
    refine ⟨.ref s.heap.objs.size, _, I.laid (t' := s.toks) (o := .tup []) (fun c oc e => Heap.get?_push_of_some _ e) (Nat.le_refl _) ?_, rfl, q _ _ (same_new hn) (SqT.of upd_same)⟩
    exact ⟨Nat.zero_le _, _, .nil, IsTup.new _ _⟩
  · exact op_rep1 hK pins s σ H _ _ v u Q I rx ry ⟨m, k, z, rfl, rfl, hT, by omega, h2, q⟩
end Ts
namespace Ts
open PySem PySem.Spec PyProof.Rows L2
/-! ## walks whose hands differ from tick to tick -/
/-- a tick: who is ahead before it, who gets hands, who is ahead behind it -/
def StepB (js : List Job) (hs : List Nat) (m : Nat) (as cs bs : List Bool) : Prop := relB (grB js (m : Int)) as cs bs ∧ cntB cs ≤ hs.getD m 0 ∧ subB (dbB js ((m : Int) + 1)) bs = true
def Back (js : List Job) (hs : List Nat) : Nat → Nat → List Bool → Prop
  | 0, _, _ => True
  | k + 1, m, as => ∃ cs bs, StepB js hs m as cs bs ∧ Back js hs k (m + 1) bs
def Reach (js : List Job) (hs : List Nat) : Nat → List Bool → Prop
  | 0, as => as = List.replicate js.length false
  | m + 1, bs => ∃ as cs, Reach js hs m as ∧ StepB js hs m as cs bs
theorem StepB.len {js : List Job} {hs : List Nat} {m : Nat} {as cs bs : List Bool} (h : StepB js hs m as cs bs) : as.length = js.length ∧ cs.length = js.length ∧ bs.length = js.length := by
  have := relB_len h.1
  rw [grB_len] at this; exact this
theorem Reach.len {js : List Job} {hs : List Nat} : ∀ {m : Nat} {as : List Bool}, Reach js hs m as → as.length = js.length
  | 0, as, h => by rw [show as = _ from h]; exact List.length_replicate
  | m + 1, bs, ⟨as, cs, _, st⟩ => st.len.2.2
theorem db_zero (js : List Job) : subB (dbB js ((0 : Nat) : Int)) (List.replicate js.length false) = true := by
  have := sub_zeros (dbB js ((0 : Nat) : Int))
  rw [dbB_len] at this; exact this
theorem Reach.db {js : List Job} {hs : List Nat} : ∀ {m : Nat} {as : List Bool}, Reach js hs m as → subB (dbB js (m : Int)) as = true
  | 0, as, h => by rw [show as = _ from h]; exact db_zero js
  | m + 1, bs, ⟨as, cs, _, st⟩ => by rw [show ((m + 1 : Nat) : Int) = (m : Int) + 1 by omega]; exact st.2.2
theorem livK_bit {js : List Job} {hs : List Nat} : ∀ k, k ≤ hs.length → ∀ bs : List Bool, bs.length = js.length →
    ((livK js hs k).testBit (numB bs) = true ↔ (subB (dbB js ((hs.length - k : Nat) : Int)) bs = true ∧ Back js hs k (hs.length - k) bs)) := by
  intro k
  induction k with
  | zero =>
    intro _ bs hb
    show (possN js.length (doubN js hs.length)).testBit (numB bs) = true ↔ _
    rw [doub_B, poss_bit (dbB_len js _) hb]
    exact ⟨fun h => ⟨h, trivial⟩, fun h => h.1⟩
  | succ k ih =>
    intro hk bs hb
    have ih := ih (by omega)
    have e1 : hs.length - k = hs.length - (k + 1) + 1 := by omega
    rw [e1] at ih
    unfold livK Back
    rw [Nat.testBit_and, doub_B, poss_bit (dbB_len js _) hb, Bool.and_eq_true_iff]
    generalize hs.length - (k + 1) = t at *
    have e2 : ((t + 1 : Nat) : Int) = (t : Int) + 1 := by omega
    rw [e2] at ih
    have bb := before_bit (n := js.length) (after := livK js hs k) (most := hs.getD t 0) hb (grB_len js (t : Int)) (grow_B js t)
    unfold naL
    rw [bb]
    constructor
    · rintro ⟨⟨ss, cs, r, c, z⟩, d⟩
      obtain ⟨l1, l2, l3⟩ := relB_len r
      rw [grB_len] at l1 l2 l3
      obtain ⟨z1, z2⟩ := (ih cs l3).mp z
      exact ⟨d, ss, cs, ⟨r, c, z1⟩, z2⟩
    · rintro ⟨d, ss, cs, ⟨r, c, z1⟩, z2⟩
      obtain ⟨l1, l2, l3⟩ := relB_len r
      rw [grB_len] at l1 l2 l3
      exact ⟨⟨ss, cs, r, c, (ih cs l3).mpr ⟨z1, z2⟩⟩, d⟩
theorem Back.reach {js : List Job} {hs : List Nat} : ∀ {k m : Nat} {as : List Bool}, Back js hs k m as → Reach js hs m as → ∃ bs, Reach js hs (m + k) bs
  | 0, m, as, _, r => ⟨as, r⟩
  | k + 1, m, as, ⟨cs, bs, st, b⟩, r => by
    have := b.reach (m := m + 1) ⟨as, cs, r, st⟩
    rw [show m + (k + 1) = m + 1 + k by omega]; exact this
theorem Reach.back {js : List Job} {hs : List Nat} : ∀ {m k : Nat} {bs : List Bool}, Reach js hs m bs → Back js hs k m bs → Back js hs (m + k) 0 (List.replicate js.length false)
  | 0, k, bs, r, b => by rw [show bs = _ from r] at b; rw [Nat.zero_add]; exact b
  | m + 1, k, bs, ⟨as, cs, r, st⟩, b => by
    have := Reach.back (k := k + 1) r ⟨cs, bs, st, b⟩
    rw [show m + 1 + k = m + (k + 1) by omega]; exact this
theorem livL_at {js : List Job} {hs : List Nat} (z : livK js hs hs.length ≠ 0) {m : Nat} (hm : m ≤ hs.length) : (livL js hs).getD m 0 = livK js hs (hs.length - m) := by
  unfold livL
  rw [if_neg z, List.getD_eq_getElem?_getD, List.getElem?_map, List.getElem?_range (by omega)]; rfl
theorem alive_back {js : List Job} {hs : List Nat} : aliveB js hs 0 0 = true ↔ Back js hs hs.length 0 (List.replicate js.length false) := by
  unfold aliveB
  rw [← Nat.testBit_eq_decide_div_mod_eq]
  have b0 := livK_bit (js := js) (hs := hs) hs.length (Nat.le_refl _) (List.replicate js.length false) List.length_replicate
  rw [num_zeros, Nat.sub_self] at b0
  constructor
  · intro h
    by_cases z : livK js hs hs.length = 0
    · unfold livL at h
      rw [if_pos z, List.getD_eq_getElem?_getD, List.getElem?_replicate, if_pos (by omega)] at h
      simp at h
    · rw [livL_at z (Nat.zero_le _), Nat.sub_zero] at h
      exact (b0.mp h).2
  · intro h
    have t := b0.mpr ⟨db_zero js, h⟩
    have z : livK js hs hs.length ≠ 0 := fun z => by rw [z] at t; simp at t
    rw [livL_at z (Nat.zero_le _), Nat.sub_zero]; exact t
theorem alive_reach {js : List Job} {hs : List Nat} : aliveB js hs 0 0 = true ↔ ∃ bs, Reach js hs hs.length bs := by
  rw [alive_back]
  constructor
  · intro h
    have := h.reach (show Reach js hs 0 _ from rfl)
    rw [Nat.zero_add] at this; exact this
  · rintro ⟨bs, r⟩
    have := r.back (k := 0) trivial
    exact this
theorem alive_liv {js : List Job} {hs : List Nat} (al : aliveB js hs 0 0 = true) : livK js hs hs.length ≠ 0 := fun z => by
  unfold aliveB livL at al
  rw [if_pos z, List.getD_eq_getElem?_getD, List.getElem?_replicate, if_pos (by omega)] at al
  have := of_decide_eq_true al
  simp at this
/-- a work that is ahead and whose lower number does not grow has two numbers behind the tick -/
def holdB : List Bool → List Bool → List Bool → Prop
  | g :: gs, a :: as, d :: ds => ((!g && a) = true → d = true) ∧ holdB gs as ds
  | _, _, _ => True
theorem sub_of_crew : ∀ {gs as ds ps : List Bool}, gs.length = as.length → ds.length = as.length → holdB gs as ds → subB (List.zipWith (fun d x => d && !x) ds (xoB gs as)) ps = true →
    ∃ cs bs, relB gs as cs bs ∧ numB cs = numB (ndB gs as) + numB ps ∧ cntB cs = cntB (ndB gs as) + cntB ps ∧ subB ds bs = true
  | [], [], [], [], _, _, _, _ => ⟨[], [], trivial, rfl, rfl, rfl⟩
  | g :: gs, a :: as, d :: ds, p :: ps, h1, h2, ho, h => by
    obtain ⟨q1, q2⟩ := Bool.and_eq_true_iff.mp h
    obtain ⟨cs, bs, r, e1, e2, e3⟩ := sub_of_crew (gs := gs) (as := as) (ds := ds) (ps := ps) (by simpa using h1) (by simpa using h2) ho.2 q2
    have key : ∃ c b : Bool, b.toNat + g.toNat = a.toNat + c.toNat ∧ c.toNat = (g && !a).toNat + p.toNat ∧ (!b || d) = true := by
      have q : (!p || (d && !(g != a))) = true := q1
      have ho := ho.1
      revert q ho
      cases g <;> cases a <;> cases p <;> cases d <;> simp
    obtain ⟨c, b, k1, k2, k3⟩ := key
    refine ⟨c :: cs, b :: bs, ⟨k1, r⟩, ?_, ?_, Bool.and_eq_true_iff.mpr ⟨k3, e3⟩⟩
    · show c.toNat + 2 * numB cs = ((g && !a).toNat + 2 * numB (ndB gs as)) + (p.toNat + 2 * numB ps)
      omega
    · show cntB (c :: cs) = cntB ((g && !a) :: ndB gs as) + cntB (p :: ps)
      rw [cntB_cons, cntB_cons, cntB_cons]; omega
theorem hold_one {e p : Nat} {t : Int} (he : 0 < e) (hp : 0 < p) (h1 : lowI e p t < highI e p t) (h2 : ¬ lowI e p t < lowI e p (t + 1)) : lowI e p (t + 1) < highI e p (t + 1) := by
  have a := high_eq (e := e) (t := t) hp
  have b := high_eq (e := e) (t := t + 1) hp
  have f0 : (p : Int) * lowI e p t ≤ t * (e : Int) := by
    show (p : Int) * (t * (e : Int) / (p : Int)) ≤ _
    exact Int.mul_ediv_self_le (by omega)
  have f1 : (t + 1) * (e : Int) < (p : Int) * lowI e p (t + 1) + (p : Int) := by
    show _ < (p : Int) * ((t + 1) * (e : Int) / (p : Int)) + (p : Int)
    exact Int.lt_mul_ediv_self_add (by omega)
  by_cases c : (t + 1) * (e : Int) % (p : Int) = 0
  · exfalso
    have d : (p : Int) * lowI e p (t + 1) = (t + 1) * (e : Int) := by
      have := Int.mul_ediv_add_emod ((t + 1) * (e : Int)) (p : Int)
      show (p : Int) * ((t + 1) * (e : Int) / (p : Int)) = _
      omega
    have ex : (t + 1) * (e : Int) = t * (e : Int) + (e : Int) := by rw [Int.add_mul, Int.one_mul]
    have hle : lowI e p (t + 1) ≤ lowI e p t := by omega
    have hm : (p : Int) * lowI e p (t + 1) ≤ (p : Int) * lowI e p t := Int.mul_le_mul_of_nonneg_left hle (by omega)
    omega
  · rw [if_neg c] at b
    omega
theorem hold_of {js : List Job} (G : Good 16 js) {t : Int} : ∀ {ls : List Job}, (∀ j ∈ ls, 0 < j.2.1 ∧ 0 < j.2.2) → ∀ {as : List Bool}, subB (dbB ls t) as = true → holdB (grB ls t) as (dbB ls (t + 1))
  | [], _, _, _ => trivial
  | j :: ls, hp, [], _ => trivial
  | j :: ls, hp, a :: as, h => by
    obtain ⟨q1, q2⟩ := Bool.and_eq_true_iff.mp h
    refine ⟨fun z => ?_, hold_of G (fun j hj => hp j (List.mem_cons_of_mem _ hj)) q2⟩
    obtain ⟨z1, z2⟩ := Bool.and_eq_true_iff.mp z
    subst z2
    have d1 : lowI j.2.1 j.2.2 t < highI j.2.1 j.2.2 t := of_decide_eq_true (by simpa using q1)
    have d2 : ¬ lowI j.2.1 j.2.2 t < lowI j.2.1 j.2.2 (t + 1) := by simpa using z1
    have hj := hp j List.mem_cons_self
    exact decide_eq_true (hold_one hj.1 hj.2 d1 d2)
theorem good_both {js : List Job} (G : Good 16 js) : ∀ j ∈ js, 0 < j.2.1 ∧ 0 < j.2.2 := fun j hj => by
  obtain ⟨h1, h2, _⟩ := G.part j hj
  omega
/-- the crews of a tick -/
theorem crews_iff {js : List Job} (G : Good 16 js) {hs : List Nat} {m c : Nat} {as : List Bool} (ha : as.length = js.length) (da : subB (dbB js (m : Int)) as = true) :
    c ∈ crewsN js hs m (numB as) ↔ ∃ cs bs, c = numB cs ∧ StepB js hs m as cs bs := by
  have hg : (grB js (m : Int)).length = as.length := by rw [grB_len, ha]
  have hdl : (dbB js ((m : Int) + 1)).length = as.length := by rw [dbB_len, ha]
  have e1 : ((m + 1 : Nat) : Int) = (m : Int) + 1 := by omega
  have enx : needN (numB (dbB js ((m : Int) + 1))) (numB (xoB (grB js (m : Int)) as)) = numB (List.zipWith (fun d x => d && !x) (dbB js ((m : Int) + 1)) (xoB (grB js (m : Int)) as)) := need_B (by rw [xo_len hg, grB_len, dbB_len])
  have lzd : (List.zipWith (fun d x => d && !x) (dbB js ((m : Int) + 1)) (xoB (grB js (m : Int)) as)).length = js.length := by rw [List.length_zipWith, xo_len hg, grB_len, dbB_len, Nat.min_self]
  unfold crewsN
  rw [doub_B, grow_B, e1, need_B hg, xor_B hg, enx, sizes_at _ _ ((nd_len hg).trans (grB_len _ _))]
  constructor
  · intro h1
    obtain ⟨p, hp, rfl⟩ := List.mem_map.mp h1
    obtain ⟨hp1, hp2⟩ := List.mem_filter.mp hp
    have zl : numB (List.zipWith (fun d x => d && !x) (dbB js ((m : Int) + 1)) (xoB (grB js (m : Int)) as)) < 2 ^ js.length := by
      have := numB_lt (List.zipWith (fun d x => d && !x) (dbB js ((m : Int) + 1)) (xoB (grB js (m : Int)) as))
      rwa [lzd] at this
    have pl := subs_lt js.length (subs_getD _ _ zl) hp1
    have ep := bitsN_num pl
    rw [← ep] at hp1 hp2
    have lb := bitsN_len js.length p
    have sub := (subs_mem js.length _ _ lzd lb).mp hp1
    obtain ⟨cs, bs, r, k1, k2, k3⟩ := sub_of_crew hg hdl (hold_of G (good_both G) da) sub
    have c1 := of_decide_eq_true hp2
    rw [sizes_at _ _ lb] at c1
    exact ⟨cs, bs, by rw [k1, ep], r, by omega, k3⟩
  · rintro ⟨cs, bs, rfl, r, c1, z⟩
    obtain ⟨l1, l2, l3⟩ := relB_len r
    rw [grB_len] at l2 l3
    obtain ⟨ps, k1, k2, k3⟩ := crew_of_rel r z
    have lp : ps.length = js.length := by rw [← subB_len k1, lzd]
    exact List.mem_map.mpr ⟨numB ps, List.mem_filter.mpr ⟨(subs_mem js.length _ _ lzd lp).mpr k1, decide_eq_true (by rw [sizes_at _ _ lp]; omega)⟩, k2.symm⟩
theorem step_num {js : List Job} {hs : List Nat} {m : Nat} {as cs bs : List Bool} (h : StepB js hs m as cs bs) : numB as + numB cs - growN js m = numB bs := by
  have rn := rel_num h.1
  rw [grow_B]; omega
theorem choices_iff {js : List Job} (G : Good 16 js) {hs : List Nat} {m c : Nat} {as : List Bool} (ha : as.length = js.length) (da : subB (dbB js (m : Int)) as = true) (z : livK js hs hs.length ≠ 0) (hm : m < hs.length) :
    c ∈ choicesN js hs m (numB as) ↔ ∃ cs bs, c = numB cs ∧ StepB js hs m as cs bs ∧ Back js hs (hs.length - (m + 1)) (m + 1) bs := by
  unfold choicesN
  rw [List.mem_filter, crews_iff G ha da, livL_at z (by omega)]
  have lb := fun (bs : List Bool) (hb : bs.length = js.length) => livK_bit (js := js) (hs := hs) (hs.length - (m + 1)) (by omega) bs hb
  rw [show hs.length - (hs.length - (m + 1)) = m + 1 by omega] at lb
  constructor
  · rintro ⟨⟨cs, bs, rfl, st⟩, h2⟩
    rw [step_num st, bit_test] at h2
    exact ⟨cs, bs, rfl, st, ((lb bs st.len.2.2).mp h2).2⟩
  · rintro ⟨cs, bs, rfl, st, b⟩
    refine ⟨⟨cs, bs, rfl, st⟩, ?_⟩
    rw [step_num st, bit_test]
    refine (lb bs st.len.2.2).mpr ⟨?_, b⟩
    rw [show ((m + 1 : Nat) : Int) = (m : Int) + 1 by omega]; exact st.2.2
/-- who is ahead along any way -/
theorem any_chainG {js : List Job} (G : Good 16 js) {hs : List Nat} (al : aliveB js hs 0 0 = true) : ∀ i, i ≤ hs.length →
    ∃ as : List Bool, aN js hs i = numB as ∧ as.length = js.length ∧ Reach js hs i as ∧ Back js hs (hs.length - i) i as
  | 0, _ => ⟨List.replicate js.length false, (num_zeros _).symm, List.length_replicate, rfl, alive_back.mp al⟩
  | i + 1, hi => by
    obtain ⟨as, ea, la, ra, b⟩ := any_chainG G al i (by omega)
    have ci := fun c => choices_iff G (c := c) la ra.db (alive_liv al) (show i < hs.length by omega)
    have hne : (choicesN js hs i (numB as)).headD 0 ∈ choicesN js hs i (numB as) := by
      rw [show hs.length - i = (hs.length - (i + 1)) + 1 by omega] at b
      obtain ⟨cs, bs, st, b2⟩ := b
      have hc := (ci (numB cs)).mpr ⟨cs, bs, rfl, st, b2⟩
      cases e : choicesN js hs i (numB as) with
      | nil => rw [e] at hc; cases hc
      | cons x l => exact List.mem_cons_self
    obtain ⟨cs, bs, ec, st, b2⟩ := (ci _).mp hne
    refine ⟨bs, ?_, st.len.2.2, ⟨as, cs, ra, st⟩, b2⟩
    show aN js hs i + (choicesN js hs i (aN js hs i)).headD 0 - growN js i = numB bs
    rw [ea, ec, step_num st]
theorem any_stepG {js : List Job} (G : Good 16 js) {hs : List Nat} (al : aliveB js hs 0 0 = true) {i : Nat} (hi : i < hs.length) :
    cN js hs i ∈ choicesN js hs i (aN js hs i) ∧ (choicesN js hs i (aN js hs i))[0]? = some (cN js hs i) := by
  obtain ⟨as, ea, la, ra, b⟩ := any_chainG G al i (by omega)
  have ci := fun c => choices_iff G (c := c) la ra.db (alive_liv al) hi
  rw [show hs.length - i = (hs.length - (i + 1)) + 1 by omega] at b
  obtain ⟨cs, bs, st, b2⟩ := b
  have hc := (ci (numB cs)).mpr ⟨cs, bs, rfl, st, b2⟩
  rw [← ea] at hc
  unfold cN
  cases e : choicesN js hs i (aN js hs i) with
  | nil => rw [e] at hc; cases hc
  | cons x l => exact ⟨List.mem_cons_self, rfl⟩
theorem any_smallG {js : List Job} (G : Good 16 js) {hs : List Nat} (l6 : js.length ≤ 6) (al : aliveB js hs 0 0 = true) : ∀ c ∈ anyN js hs hs.length 0 0, c < 128 := fun c hc => by
  have e := anyN_steps js hs hs.length 0
  rw [show aN js hs 0 = 0 from rfl] at e
  rw [e] at hc
  obtain ⟨i, hi, rfl⟩ := List.mem_map.mp hc
  have hi := List.mem_range'.mp hi
  obtain ⟨k, hk, rfl⟩ := hi
  exact choices_lt l6 _ (any_stepG G al (by omega)).1
/-- a plan -/
def planR (js : List Job) (hs : List Nat) : List (List Int) := (anyN js hs hs.length 0 0).map rowOf
/-- how many first counts can be gone along with -/
def LongAt (js : List Job) (hs : List Nat) (x : Nat) : Prop := x ≤ hs.length ∧ (∃ bs, Reach js hs x bs) ∧ (x < hs.length → ∀ bs, ¬ Reach js hs (x + 1) bs)
theorem reach_down {js : List Job} {hs : List Nat} : ∀ {k m : Nat}, (∃ bs, Reach js hs (m + k) bs) → ∃ bs, Reach js hs m bs
  | 0, m, h => h
  | k + 1, m, ⟨bs, as, cs, r, _⟩ => reach_down (k := k) ⟨as, r⟩
theorem LongAt.uniq {js : List Job} {hs : List Nat} {x y : Nat} (h : LongAt js hs x) (g : LongAt js hs y) : x = y := by
  have key : ∀ {x y : Nat}, LongAt js hs x → LongAt js hs y → ¬ x < y := fun {x y} h g c => by
    obtain ⟨bs, r⟩ := reach_down (js := js) (hs := hs) (m := x + 1) (k := y - (x + 1)) (by rw [show x + 1 + (y - (x + 1)) = y by omega]; exact g.2.1)
    exact h.2.2 (by have := g.1; omega) bs r
  have := key h g
  have := key g h
  omega
theorem long_alive {js : List Job} {hs : List Nat} {x : Nat} (h : LongAt js hs x) : aliveB js hs 0 0 = decide (x = hs.length) := by
  cases c : aliveB js hs 0 0 with
  | true =>
    symm
    refine decide_eq_true ?_
    obtain ⟨bs, r⟩ := alive_reach.mp c
    exact h.uniq ⟨Nat.le_refl _, ⟨bs, r⟩, fun z => by omega⟩
  | false =>
    symm
    refine decide_eq_false fun e => ?_
    subst e
    rw [alive_reach.mpr h.2.1] at c; cases c
/-- with a hand for each work all can be kept -/
theorem rel_low : ∀ gs : List Bool, relB gs (List.replicate gs.length false) gs (List.replicate gs.length false)
  | [] => trivial
  | g :: gs => ⟨by show 0 + g.toNat = 0 + g.toNat; rfl, rel_low gs⟩
theorem cnt_len : ∀ ss : List Bool, cntB ss ≤ ss.length := fun ss => List.length_filter_le _ _
theorem back_full {js : List Job} {hs : List Nat} (h : ∀ m, m < hs.length → js.length ≤ hs.getD m 0) : ∀ k m, m + k = hs.length → Back js hs k m (List.replicate js.length false)
  | 0, _, _ => trivial
  | k + 1, m, hk => by
    have r := rel_low (grB js (m : Int))
    rw [grB_len] at r
    refine ⟨grB js (m : Int), _, ⟨r, ?_, ?_⟩, back_full h k (m + 1) (by omega)⟩
    · have := cnt_len (grB js (m : Int))
      rw [grB_len] at this
      exact Nat.le_trans this (h m (by omega))
    · have := sub_zeros (dbB js ((m : Int) + 1))
      rw [dbB_len] at this; exact this
theorem alive_full {js : List Job} {hs : List Nat} (h : ∀ m, m < hs.length → js.length ≤ hs.getD m 0) : aliveB js hs 0 0 = true := alive_back.mpr (back_full h _ 0 (by omega))
end Ts
namespace Ts
open PySem PySem.Spec PyProof.Rows L2
/-! ## what one can come to, layer by layer -/
def addN (ks : List Nat) (a : Nat) : List Nat := if a ∈ ks then ks else ks ++ [a]
def keyT (ks : List Nat) : List (L2.Key × V) := ks.map fun a : Nat => (Sum.inl (a : Int), V.bl true)
theorem addN_mem {ks : List Nat} {a x : Nat} : x ∈ addN ks a ↔ x ∈ ks ∨ x = a := by
  unfold addN
  split
  · rename_i h
    exact ⟨.inl, fun z => z.elim id fun e => e ▸ h⟩
  · rw [List.mem_append, List.mem_singleton]
theorem addN_nodup {ks : List Nat} {a : Nat} (h : ks.Nodup) : (addN ks a).Nodup := by
  unfold addN
  split
  · exact h
  · rename_i c
    exact List.nodup_append.mpr ⟨h, List.nodup_cons.mpr ⟨by simp, List.nodup_nil⟩, fun x hx y hy e => c (by rw [List.mem_singleton] at hy; rw [← hy, ← e]; exact hx)⟩
theorem keyT_put (ks : List Nat) (a : Nat) : putK (keyT ks) (Sum.inl (a : Int)) (V.bl true) = keyT (addN ks a) := by
  unfold putK addN
  have e : (keyT ks).any (fun kv => decide (kv.1 = (Sum.inl (a : Int) : L2.Key))) = decide (a ∈ ks) := by
    refine Bool.eq_iff_iff.mpr ?_
    rw [List.any_eq_true, decide_eq_true_iff]
    constructor
    · rintro ⟨kv, hk, e⟩
      obtain ⟨b, hb, rfl⟩ := List.mem_map.mp hk
      have e' : (Sum.inl (b : Int) : L2.Key) = Sum.inl (a : Int) := of_decide_eq_true e
      have := Sum.inl.inj e'
      rw [show a = b by omega]; exact hb
    · intro h
      exact ⟨_, List.mem_map.mpr ⟨a, h, rfl⟩, decide_eq_true rfl⟩
  by_cases c : a ∈ ks
  · rw [if_pos c, if_pos (by rw [e]; exact decide_eq_true c)]
    unfold keyT
    rw [List.map_map]
    refine List.map_congr_left fun b hb => ?_
    show (if _ then _ else _) = _
    split
    · rename_i z
      have e' : (Sum.inl (b : Int) : L2.Key) = Sum.inl (a : Int) := by simpa using z
      first | rfl | exact congrArg (fun k => (k, V.bl true)) e'.symm | exact congrArg (fun k => (k, V.bl true)) e'
    · rfl
  · rw [if_neg c, if_neg (by rw [e, decide_eq_false c]; exact Bool.false_ne_true)]
    unfold keyT
    rw [List.map_append]; rfl
theorem keyT_keys (ks : List Nat) : (keyT ks).map (fun kv => kV kv.1) = natV ks := by
  unfold keyT natV
  rw [List.map_map]; rfl
/-- a layer: each that can be come to, once -/
def LayOk (js : List Job) (hs : List Nat) (m : Nat) (as : List Nat) : Prop := as.Nodup ∧ ∀ x, x ∈ as ↔ ∃ bs, Reach js hs m bs ∧ x = numB bs
theorem LayOk.lt {js : List Job} {hs : List Nat} {m : Nat} {as : List Nat} (h : LayOk js hs m as) {x : Nat} (hx : x ∈ as) : x < 2 ^ js.length := by
  obtain ⟨bs, r, rfl⟩ := (h.2 x).mp hx
  have := numB_lt bs
  rwa [r.len] at this
theorem nodup_len : ∀ {b : Nat} {l : List Nat}, l.Nodup → (∀ x ∈ l, x < b) → l.length ≤ b
  | 0, l, _, hb => by
    cases l with
    | nil => exact Nat.le_refl _
    | cons x l => exact absurd (hb x List.mem_cons_self) (by omega)
  | b + 1, l, h, hb => by
    have ih := nodup_len (b := b) (l := l.erase b) (h.erase b) fun x hx => by
      have h1 := hb x (List.mem_of_mem_erase hx)
      have h2 : x ≠ b := fun e => by
        subst e
        exact (List.Nodup.not_mem_erase h) hx
      omega
    have := List.length_erase_of_mem (a := b) (l := l)
    by_cases c : b ∈ l
    · have := this c; omega
    · rw [List.erase_of_not_mem c] at ih; omega
theorem LayOk.len {js : List Job} {hs : List Nat} {m : Nat} {as : List Nat} (h : LayOk js hs m as) (l6 : js.length ≤ 6) : as.length ≤ 64 :=
  Nat.le_trans (nodup_len h.1 fun x hx => h.lt hx) (Nat.le_trans (Nat.pow_le_pow_right (by decide) l6) (by decide))
theorem lay_zero (js : List Job) (hs : List Nat) : LayOk js hs 0 [0] := by
  refine ⟨by simp, fun x => ?_⟩
  rw [List.mem_singleton]
  constructor
  · rintro rfl
    exact ⟨_, rfl, (num_zeros _).symm⟩
  · rintro ⟨bs, r, rfl⟩
    rw [show bs = _ from r, num_zeros]
/-- what comes behind one, behind some -/
def behC (js : List Job) (m a : Nat) (cs : List Nat) (ks : List Nat) : List Nat := cs.foldl (fun ks c => addN ks (a + c - growN js m)) ks
def behA (js : List Job) (hs : List Nat) (m : Nat) (as : List Nat) : List Nat := as.foldl (fun ks a => behC js m a (crewsN js hs m a) ks) []
theorem behC_mem {js : List Job} {m a x : Nat} : ∀ {cs ks : List Nat}, x ∈ behC js m a cs ks ↔ x ∈ ks ∨ ∃ c ∈ cs, x = a + c - growN js m
  | [], ks => ⟨.inl, fun z => z.elim id fun ⟨_, h, _⟩ => by cases h⟩
  | c :: cs, ks => by
    show x ∈ behC js m a cs (addN ks _) ↔ _
    rw [behC_mem, addN_mem]
    constructor
    · rintro ((h | h) | ⟨d, hd, e⟩)
      · exact .inl h
      · exact .inr ⟨c, List.mem_cons_self, h⟩
      · exact .inr ⟨d, List.mem_cons_of_mem _ hd, e⟩
    · rintro (h | ⟨d, hd, e⟩)
      · exact .inl (.inl h)
      · rcases List.mem_cons.mp hd with rfl | hd
        · exact .inl (.inr e)
        · exact .inr ⟨d, hd, e⟩
theorem behC_nodup {js : List Job} {m a : Nat} : ∀ {cs ks : List Nat}, ks.Nodup → (behC js m a cs ks).Nodup
  | [], _, h => h
  | c :: cs, ks, h => behC_nodup (cs := cs) (addN_nodup h)
theorem behC_snoc {js : List Job} {m a c : Nat} {cs ks : List Nat} : behC js m a (cs ++ [c]) ks = addN (behC js m a cs ks) (a + c - growN js m) := by
  unfold behC; rw [List.foldl_append]; rfl
theorem behA_snoc {js : List Job} {hs : List Nat} {m a : Nat} {as : List Nat} : behA js hs m (as ++ [a]) = behC js m a (crewsN js hs m a) (behA js hs m as) := by
  unfold behA; rw [List.foldl_append]; rfl
theorem behA_mem {js : List Job} {hs : List Nat} {m x : Nat} {as : List Nat} : x ∈ behA js hs m as ↔ ∃ a ∈ as, ∃ c ∈ crewsN js hs m a, x = a + c - growN js m := by
  have key : ∀ (as ks : List Nat), x ∈ as.foldl (fun ks a => behC js m a (crewsN js hs m a) ks) ks ↔ x ∈ ks ∨ ∃ a ∈ as, ∃ c ∈ crewsN js hs m a, x = a + c - growN js m := fun as => by
    induction as with
    | nil => exact fun ks => ⟨.inl, fun z => z.elim id fun ⟨_, h, _⟩ => by cases h⟩
    | cons a as ih =>
      intro ks
      rw [List.foldl_cons, ih, behC_mem]
      constructor
      · rintro ((h | ⟨c, hc, e⟩) | ⟨d, hd, q⟩)
        · exact .inl h
        · exact .inr ⟨a, List.mem_cons_self, c, hc, e⟩
        · exact .inr ⟨d, List.mem_cons_of_mem _ hd, q⟩
      · rintro (h | ⟨d, hd, q⟩)
        · exact .inl (.inl h)
        · rcases List.mem_cons.mp hd with rfl | hd
          · exact .inl (.inr q)
          · exact .inr ⟨d, hd, q⟩
  have := key as []
  unfold behA
  rw [this]
  exact ⟨fun z => z.elim (fun h => by cases h) id, .inr⟩
theorem behA_nodup {js : List Job} {hs : List Nat} {m : Nat} (as : List Nat) : (behA js hs m as).Nodup := by
  have key : ∀ (as ks : List Nat), ks.Nodup → (as.foldl (fun ks a => behC js m a (crewsN js hs m a) ks) ks).Nodup := fun as => by
    induction as with
    | nil => exact fun ks h => h
    | cons a as ih => exact fun ks h => ih _ (behC_nodup h)
  exact key as [] List.nodup_nil
theorem lay_next {js : List Job} (G : Good 16 js) {hs : List Nat} {m : Nat} {as : List Nat} (h : LayOk js hs m as) : LayOk js hs (m + 1) (behA js hs m as) := by
  refine ⟨behA_nodup as, fun x => ?_⟩
  rw [behA_mem]
  constructor
  · rintro ⟨a, ha, c, hc, rfl⟩
    obtain ⟨bs, r, rfl⟩ := (h.2 a).mp ha
    obtain ⟨cs, ds, rfl, st⟩ := (crews_iff G r.len r.db).mp hc
    exact ⟨ds, ⟨bs, cs, r, st⟩, step_num st⟩
  · rintro ⟨ds, ⟨bs, cs, r, st⟩, rfl⟩
    exact ⟨numB bs, (h.2 _).mpr ⟨bs, r, rfl⟩, numB cs, (crews_iff G r.len r.db).mpr ⟨cs, ds, rfl, st⟩, (step_num st).symm⟩
/-- within a layer all stays small -/
theorem beh_small {js : List Job} (G : Good 16 js) (l6 : js.length ≤ 6) {hs : List Nat} {m : Nat} {as : List Nat} (h : LayOk js hs m as) {i k : Nat} {a : Nat} (ha : as[i]? = some a) :
    (behC js m a ((crewsN js hs m a).take k) (behA js hs m (as.take i))).length ≤ 64 := by
  have hm := List.mem_of_getElem? ha
  have hn := lay_next G h
  refine Nat.le_trans (nodup_len (behC_nodup (behA_nodup _)) fun x hx => ?_) (Nat.le_trans (Nat.pow_le_pow_right (n := 2) (by decide) l6) (by decide))
  refine hn.lt ?_
  rcases behC_mem.mp hx with q | ⟨c, hc, rfl⟩
  · obtain ⟨b, hb, q⟩ := behA_mem.mp q
    exact behA_mem.mpr ⟨b, List.mem_of_mem_take hb, q⟩
  · exact behA_mem.mpr ⟨a, hm, c, List.mem_of_mem_take hc, rfl⟩
theorem lay_empty {js : List Job} {hs : List Nat} {m : Nat} {as : List Nat} (h : LayOk js hs m as) : as = [] ↔ ∀ bs, ¬ Reach js hs m bs := by
  constructor
  · rintro rfl bs r
    have := (h.2 (numB bs)).mpr ⟨bs, r, rfl⟩
    cases this
  · intro z
    refine List.eq_nil_iff_forall_not_mem.mpr fun x hx => ?_
    obtain ⟨bs, r, _⟩ := (h.2 x).mp hx
    exact z bs r
/-! ## what is asked -/
def rowN (js : List Job) (m c : Nat) : List Int := rowB js (m : Int) (bitsN js.length c)
theorem rowB_at {t : Int} : ∀ {js : List Job} {bs : List Bool} {i : Nat} {j : Job}, bs.length = js.length → js[i]? = some j → (rowB js t bs)[i]? = some (lowI j.2.1 j.2.2 t + ((bs.getD i false).toNat : Int))
  | j :: js, b :: bs, 0, k, _, h => by cases Option.some.inj h; rfl
  | j :: js, b :: bs, i + 1, k, hl, h => by
    have ih := rowB_at (t := t) (js := js) (bs := bs) (i := i) (j := k) (by simpa using hl) (by simpa using h)
    show (rowB js t bs)[i]? = _
    rw [ih]; rfl
  | [], _, _, _, _, h => by simp at h
  | _ :: _, [], _, _, h, _ => by simp at h
theorem rowN_at {js : List Job} {m c i : Nat} {j : Job} (h : js[i]? = some j) : (rowN js m c)[i]? = some (lowI j.2.1 j.2.2 (m : Int) + ((c / 2 ^ i % 2 : Nat) : Int)) := by
  unfold rowN
  rw [rowB_at (bitsN_len _ _) h]
  have il := (List.getElem?_eq_some_iff.mp h).1
  have e : (bitsN js.length c).getD i false = c.testBit i := by
    unfold bitsN
    rw [List.getD_eq_getElem?_getD, List.getElem?_map, List.getElem?_range il]; rfl
  rw [e, Nat.testBit_eq_decide_div_mod_eq]
  have := Nat.mod_lt (c / 2 ^ i) (show 0 < 2 by decide)
  by_cases z : c / 2 ^ i % 2 = 1
  · rw [decide_eq_true z, z]; rfl
  · rw [decide_eq_false z, show c / 2 ^ i % 2 = 0 by omega]; rfl
theorem rowN_len (js : List Job) (m c : Nat) : (rowN js m c).length = js.length := rowB_len (bitsN_len _ _)
def spAnyWayG (K : PySem.W.Frag) (C : Addr) : Sp := fun vs H Q _ => ∃ (a : Addr) (js : List Job) (hs : List Nat), vs = [.ref a] ∧ WalkAt K C H a js hs ∧ Good 16 js ∧ js.length ≤ 6 ∧ hs.length ≤ 720 ∧
  (aliveB js hs 0 0 = false → Q .non H) ∧ (aliveB js hs 0 0 = true → ∀ (p : Addr) (H' : Hp), H p = none → Same H H' → H' p = some (.lst (natV (anyN js hs hs.length 0 0))) → Q (.ref p) H')
def spNumbersOf (K : PySem.W.Frag) (C : Addr) : Sp := fun vs H Q _ => ∃ (a : Addr) (m c : Nat) (js : List Job) (hs : List Nat), vs = [.ref a, .int (m : Int), .int (c : Int)] ∧ WalkAt K C H a js hs ∧ js.length ≤ 6 ∧ m ≤ hs.length ∧
  ∀ (p : Addr) (H' : Hp), H p = none → Same H H' → H' p = some (.tup ((rowN js m c).map V.int)) → Q (.ref p) H'
def spStandingsIn (K : PySem.W.Frag) (C : Addr) : Sp := fun vs H Q _ => ∃ (a l : Addr) (m : Nat) (as : List Nat) (js : List Job) (hs : List Nat), vs = [.ref a, .int (m : Int), .ref l] ∧ WalkAt K C H a js hs ∧ 0 < js.length ∧ js.length ≤ 6 ∧ m ≤ hs.length ∧ SqL K H l (natV as) ∧ as.length ≤ 64 ∧
  ∀ (p : Addr) (us : List V) (rows : List (List Int)) (H' : Hp), H p = none → Same H H' → H' p = some (.tup us) → DpAll K H' us (rows.map rowD) → SrtO.Srtd HT.lexLt rows → SrtO.Stb HT.lexLt rows (as.map (rowN js m)) → Q (.ref p) H'
/-- layers in a row: the i-th one is a tuple with something in it just if one can come so far -/
def LaysAt (K : PySem.W.Frag) (H : Hp) (js : List Job) (hs : List Nat) (us : List V) : Prop := ∀ i, i < us.length → ∃ (q : Addr) (ws : List V), us[i]? = some (.ref q) ∧ SqT K H q ws ∧ (ws = [] ↔ ∀ bs, ¬ Reach js hs i bs)
theorem LaysAt.mono {K : PySem.W.Frag} {H H' : Hp} {js : List Job} {hs : List Nat} {us : List V} (h : LaysAt K H js hs us) (s : Same H H') : LaysAt K H' js hs us := fun i hi => let ⟨q, ws, e1, e2, e3⟩ := h i hi; ⟨q, ws, e1, sameT s e2, e3⟩
def spLayers (K : PySem.W.Frag) (C : Addr) : Sp := fun vs H Q _ => ∃ (a c : Addr) (n : Nat) (js : List Job) (hs : List Nat), vs = [.ref a, .ref c] ∧ LotAt K C H a n js ∧ Good 16 js ∧ 0 < js.length ∧ js.length ≤ 6 ∧ hs.length ≤ 720 ∧ (∀ m ∈ hs, m ≤ 1000) ∧ SqT K H c (natV hs) ∧
  ∀ (p : Addr) (us : List V) (x : Nat) (H' : Hp), H p = none → Same H H' → H' p = some (.tup us) → LaysAt K H' js hs us → LongAt js hs x → us.length = (if x = hs.length then x + 1 else x + 2) → Q (.ref p) H'
def spCheckCountsS (K : PySem.W.Frag) (C : Addr) : Sp := fun vs H Q E => ∃ (v : V) (t : Option (List (Option Int))), vs = [v] ∧ ThingS K H v t ∧ (wrongC t = none → ∀ H', Same H H' → Q .non H') ∧ ∀ u, wrongC t = some u → Raise1 C "index" u H E
/-- counts, as the checker of values tells them -/
def hsO (hs : List Nat) : Option (List (Option Int)) := some (hs.map fun m : Nat => some (m : Int))
theorem badC_none {hs : List Nat} (h : ∀ m ∈ hs, m ≤ 6) : ∀ i, i + hs.length ≤ 60 → badCo (hs.map fun m : Nat => some (m : Int)) i = none := by
  induction hs with
  | nil => exact fun _ _ => rfl
  | cons m hs ih =>
    intro i hi
    rw [List.length_cons] at hi
    show (if i = 60 ∨ inRg (some (m : Int)) 0 6 = false then some i else badCo (hs.map fun m : Nat => some (m : Int)) (i + 1)) = none
    have hm := h m List.mem_cons_self
    rw [if_neg, ih (fun x hx => h x (List.mem_cons_of_mem _ hx)) (i + 1) (by omega)]
    rintro (z | z)
    · omega
    · have z : decide ((0 : Int) ≤ (m : Int) ∧ (m : Int) ≤ 6) = false := z
      have := of_decide_eq_false z
      omega
theorem wrongC_none {hs : List Nat} (h0 : 0 < hs.length) (h1 : hs.length ≤ 60) (h : ∀ m ∈ hs, m ≤ 6) : wrongC (hsO hs) = none := by
  have := badC_none h 0 (by omega)
  cases hs with
  | nil => cases h0
  | cons m hs =>
    rw [List.map_cons] at this
    unfold wrongC hsO
    rw [List.map_cons]
    dsimp only
    rw [this]; rfl
theorem hs_of_bad : ∀ {os : List (Option Int)} {i : Nat}, i ≤ 60 → badCo os i = none → i + os.length ≤ 60 ∧ ∃ hs : List Nat, os = hs.map (fun m : Nat => some (m : Int)) ∧ ∀ m ∈ hs, m ≤ 6
  | [], i, hi, _ => ⟨by simpa using hi, [], rfl, fun m h => by cases h⟩
  | o :: os, i, hi, h => by
    have h : (if i = 60 ∨ inRg o 0 6 = false then some i else badCo os (i + 1)) = none := h
    by_cases c : i = 60 ∨ inRg o 0 6 = false
    · rw [if_pos c] at h; cases h
    · rw [if_neg c] at h
      obtain ⟨h1, hs, rfl, h2⟩ := hs_of_bad (by omega) h
      have c2 : inRg o 0 6 = true := by
        cases e : inRg o 0 6 with
        | true => rfl
        | false => exact absurd (.inr e) c
      obtain ⟨x, rfl, x0, x6⟩ := inRg_is c2
      obtain ⟨m, rfl⟩ := Int.eq_ofNat_of_zero_le x0
      refine ⟨by rw [List.length_cons]; omega, m :: hs, rfl, fun y hy => ?_⟩
      rcases List.mem_cons.mp hy with rfl | hy
      · omega
      · exact h2 y hy
theorem hs_of_wrong {t : Option (List (Option Int))} (h : wrongC t = none) : ∃ hs, t = hsO hs ∧ 0 < hs.length ∧ hs.length ≤ 60 ∧ ∀ m ∈ hs, m ≤ 6 := by
  cases t with
  | none => cases h
  | some os =>
    cases os with
    | nil => cases h
    | cons o r =>
      have h : badCo (o :: r) 0 = none := by
        cases e : badCo (o :: r) 0 with
        | none => rfl
        | some k =>
          have : wrongC (some (o :: r)) = some (V.int (k : Int)) := by
            unfold wrongC
            dsimp only
            rw [e]; rfl
          rw [this] at h; cases h
      obtain ⟨h1, hs, e, h2⟩ := hs_of_bad (Nat.zero_le _) h
      have l : (o :: r).length = hs.length := by rw [e, List.length_map]
      exact ⟨hs, by rw [e]; rfl, by rw [← l]; exact Nat.succ_pos _, by omega, h2⟩
theorem thing_hs {K : PySem.W.Frag} {H : Hp} {v : V} {hs : List Nat} (h : ThingS K H v (hsO hs)) : ∃ p, v = .ref p ∧ SqT K H p (natV hs) := by
  obtain ⟨p, xs, rfl, hT, hl, hx⟩ := h
  rw [List.length_map] at hl
  refine ⟨p, rfl, ?_⟩
  have e : xs = natV hs := by
    refine List.ext_getElem? fun i => ?_
    by_cases c : i < hs.length
    · have h1 : (natV hs)[i]? = some (V.int ((hs[i] : Nat) : Int)) := by rw [List.getElem?_map, List.getElem?_eq_getElem c]; rfl
      have h2 : xs[i]? = some (xs[i]'(by omega)) := List.getElem?_eq_getElem _
      have := hx i _ (some ((hs[i] : Nat) : Int)) h2 (by rw [List.getElem?_map, List.getElem?_eq_getElem c]; rfl)
      rw [h1, h2, show xs[i]'(by omega) = V.int ((hs[i] : Nat) : Int) from this]
    · rw [List.getElem?_eq_none (by omega), List.getElem?_eq_none (by rw [List.length_map]; omega)]
  rw [← e]
  exact hT
def spLongest (K : PySem.W.Frag) (C CL CI : Addr) : Sp := fun vs H Q E => ∃ (v u : V) (o : Option (Nat × List Job)) (t : Option (List (Option Int))), vs = [v, u] ∧ LotOr K C H v o ∧ ThingS K H u t ∧ (∀ n js, o = some (n, js) → Good 16 js ∧ 0 < js.length ∧ js.length ≤ 6) ∧ (o = none → Raise1 CL "given" v H E) ∧ (∀ n js x, o = some (n, js) → wrongC t = some x → Raise1 CI "index" x H E) ∧
  ∀ n js hs, o = some (n, js) → t = hsO hs → 0 < hs.length → hs.length ≤ 60 → (∀ m ∈ hs, m ≤ 6) → ∀ (x : Nat) (H' : Hp), Same H H' → LongAt js hs x → Q (.int (x : Int)) H'
/-- a plan, or none -/
def PlanV (H : Hp) (js : List Job) (hs : List Nat) (v : V) : Prop := (aliveB js hs 0 0 = false ∧ v = .non) ∨ (aliveB js hs 0 0 = true ∧ ∃ (p : Addr) (us : List V), v = .ref p ∧ H p = some (.tup us) ∧ RowT H us (planR js hs))
theorem PlanV.mono {H H' : Hp} {js : List Job} {hs : List Nat} {v : V} (h : PlanV H js hs v) (s : Same H H') : PlanV H' js hs v := by
  rcases h with h | ⟨h, p, us, e, a, r⟩
  · exact .inl h
  · exact .inr ⟨h, p, us, e, s _ _ a, r.mono s⟩
def spPlan (K : PySem.W.Frag) (C CL CI : Addr) : Sp := fun vs H Q E => ∃ (v u : V) (o : Option (Nat × List Job)) (t : Option (List (Option Int))), vs = [v, u] ∧ LotOr K C H v o ∧ ThingS K H u t ∧ (∀ n js, o = some (n, js) → Good 16 js ∧ 0 < js.length ∧ js.length ≤ 6) ∧ (o = none → Raise1 CL "given" v H E) ∧ (∀ n js x, o = some (n, js) → wrongC t = some x → Raise1 CI "index" x H E) ∧
  ∀ n js hs, o = some (n, js) → t = hsO hs → 0 < hs.length → hs.length ≤ 60 → (∀ m ∈ hs, m ≤ 6) → ∀ (v2 : V) (H' : Hp), Same H H' → PlanV H' js hs v2 → Q v2 H'
/-- the least number more -/
def LeastAt (js : List Job) (hs : List Nat) (x : Nat) : Prop := aliveB js (hs.map (· + x)) 0 0 = true ∧ ∀ y, y < x → aliveB js (hs.map (· + y)) 0 0 = false
def spLeast (K : PySem.W.Frag) (C CL CI : Addr) : Sp := fun vs H Q E => ∃ (v u : V) (o : Option (Nat × List Job)) (t : Option (List (Option Int))), vs = [v, u] ∧ LotOr K C H v o ∧ ThingS K H u t ∧ (∀ n js, o = some (n, js) → Good 16 js ∧ 0 < js.length ∧ js.length ≤ 6) ∧ (o = none → Raise1 CL "given" v H E) ∧ (∀ n js x, o = some (n, js) → wrongC t = some x → Raise1 CI "index" x H E) ∧
  ∀ n js hs, o = some (n, js) → t = hsO hs → 0 < hs.length → hs.length ≤ 60 → (∀ m ∈ hs, m ≤ 6) → ∀ (x : Nat) (H' : Hp), Same H H' → LeastAt js hs x → Q (.int (x : Int)) H'
theorem least_full {js : List Job} {hs : List Nat} {y : Nat} (h : js.length ≤ y) : aliveB js (hs.map (· + y)) 0 0 = true := alive_full fun m hm => by
  rw [List.length_map] at hm
  rw [List.getD_eq_getElem?_getD, List.getElem?_map, List.getElem?_eq_getElem hm]
  show js.length ≤ hs[m] + y
  omega
end Ts
namespace Ts
open PySem PySem.Spec PyProof.Rows L2
/-! ## the program asked with counts that are right -/
theorem hsO_map : ∀ {hs hs' : List Nat}, hs.map (fun m : Nat => some (m : Int)) = hs'.map (fun m : Nat => some (m : Int)) → hs = hs'
  | [], [], _ => rfl
  | [], _ :: _, h => by cases h
  | _ :: _, [], h => by cases h
  | x :: hs, y :: l, h => by
    rw [List.map_cons, List.map_cons] at h
    obtain ⟨h1, h2⟩ := List.cons.inj h
    have h1 := Option.some.inj h1
    rw [hsO_map h2, show x = y by omega]
theorem hsO_inj {hs hs' : List Nat} (h : hsO hs = hsO hs') : hs = hs' := hsO_map (Option.some.inj h)
def spLongestW (K : PySem.W.Frag) (C CL CI : Addr) : Sp := fun vs H Q _ => spLongest K C CL CI vs H Q (fun _ _ _ => False)
section
variable {K : PySem.W.Frag} {C CL CI : Addr} {H : Hp} {Q : VK} {x c : Addr} {n : Nat} {js : List Job} {hs : List Nat}
theorem hs_thing (hS : SqT K H c (natV hs)) : ThingS K H (.ref c) (hsO hs) := by
  refine ⟨c, natV hs, rfl, hS, by rw [List.length_map, List.length_map], fun i y o h1 h2 => ?_⟩
  rw [List.getElem?_map] at h1 h2
  cases e : hs[i]? with
  | none => rw [e] at h1; cases h1
  | some m =>
    rw [e] at h1 h2
    cases Option.some.inj h1
    cases Option.some.inj h2
    exact rfl
theorem long_call (L : LotAt K C H x n js) (G : Good 16 js) (l0 : 0 < js.length) (l6 : js.length ≤ 6) (hS : SqT K H c (natV hs)) (h0 : 0 < hs.length) (h60 : hs.length ≤ 60) (hb : ∀ m ∈ hs, m ≤ 6)
    (q : ∀ (y : Nat) (H' : Hp), Same H H' → LongAt js hs y → Q (.int (y : Int)) H') : spLongestW K C CL CI [.ref x, .ref c] H Q E0 :=
  ⟨.ref x, .ref c, some (n, js), hsO hs, rfl, ⟨x, rfl, L⟩, hs_thing hS, fun n' js' e => by cases e; exact ⟨G, l0, l6⟩, fun e => (by cases e), fun n' js' z e w => (by rw [wrongC_none h0 h60 hb] at w; cases w), fun n' js' hs' e1 e2 _ _ _ => by cases e1; rw [← hsO_inj e2]; exact q⟩
end
end Ts
namespace Ts
open PySem PySem.Spec PyProof.Rows L2
/-! ## round by round, and first counts -/
theorem low_round {js : List Job} {j : Job} (h : j ∈ js) (hp : 0 < j.2.2) (t : Int) (k : Nat) : lowI j.2.1 j.2.2 (t + (spanN js : Int) * (k : Int)) = lowI j.2.1 j.2.2 t + (j.2.1 : Int) * (((spanN js / j.2.2 : Nat) : Int) * (k : Int)) := by
  obtain ⟨c, hc⟩ := dvd_span h
  have e : spanN js / j.2.2 = c := by rw [hc]; exact Nat.mul_div_cancel_left _ hp
  rw [e]
  have e2 : (spanN js : Int) * (k : Int) = (j.2.2 : Int) * ((c : Int) * (k : Int)) := by
    rw [hc, ← Int.mul_assoc]; norm_cast
  rw [e2]
  exact low_shift hp
theorem high_round {js : List Job} {j : Job} (h : j ∈ js) (hp : 0 < j.2.2) (t : Int) (k : Nat) : highI j.2.1 j.2.2 (t + (spanN js : Int) * (k : Int)) = highI j.2.1 j.2.2 t + (j.2.1 : Int) * (((spanN js / j.2.2 : Nat) : Int) * (k : Int)) := by
  have a := high_eq (e := j.2.1) (t := t) hp
  have b := high_eq (e := j.2.1) (t := t + (spanN js : Int) * (k : Int)) hp
  have l := low_round h hp t k
  obtain ⟨c, hc⟩ := dvd_span h
  have e2 : (t + (spanN js : Int) * (k : Int)) * (j.2.1 : Int) = t * (j.2.1 : Int) + (j.2.2 : Int) * ((c : Int) * (k : Int) * (j.2.1 : Int)) := by
    rw [Int.add_mul, hc]
    push_cast
    simp only [Int.mul_assoc]
  have em : (t + (spanN js : Int) * (k : Int)) * (j.2.1 : Int) % (j.2.2 : Int) = t * (j.2.1 : Int) % (j.2.2 : Int) := by rw [e2, Int.add_mul_emod_self_left]
  rw [em] at b
  by_cases z : t * (j.2.1 : Int) % (j.2.2 : Int) = 0
  · rw [if_pos z] at a b; omega
  · rw [if_neg z] at a b; omega
theorem db_round {js : List Job} (G : Good 16 js) (t : Int) (k : Nat) : dbB js (t + (spanN js : Int) * (k : Int)) = dbB js t := by
  unfold dbB
  refine List.map_congr_left fun j hj => ?_
  have hp := good_pos G j hj
  rw [low_round hj hp, high_round hj hp]
  exact decide_eq_decide.mpr ⟨fun z => by omega, fun z => by omega⟩
theorem gr_round {js : List Job} (G : Good 16 js) (t : Int) (k : Nat) : grB js (t + (spanN js : Int) * (k : Int)) = grB js t := by
  unfold grB
  refine List.map_congr_left fun j hj => ?_
  have hp := good_pos G j hj
  rw [show t + (spanN js : Int) * (k : Int) + 1 = (t + 1) + (spanN js : Int) * (k : Int) by omega, low_round hj hp, low_round hj hp]
  exact decide_eq_decide.mpr ⟨fun z => by omega, fun z => by omega⟩
theorem step_round {js : List Job} (G : Good 16 js) {hs hs' : List Nat} {m k : Nat} {as cs bs : List Bool} (st : StepB js hs m as cs bs) (hh : hs'.getD (m + spanN js * k) 0 = hs.getD m 0) : StepB js hs' (m + spanN js * k) as cs bs := by
  obtain ⟨r, c, d⟩ := st
  have e : ((m + spanN js * k : Nat) : Int) = (m : Int) + (spanN js : Int) * (k : Int) := by push_cast; rfl
  refine ⟨by rw [e, gr_round G]; exact r, by rw [hh]; exact c, ?_⟩
  rw [e, show (m : Int) + (spanN js : Int) * (k : Int) + 1 = ((m : Int) + 1) + (spanN js : Int) * (k : Int) by omega, db_round G]
  exact d
theorem zeros_of {n : Nat} {bs : List Bool} (hl : bs.length = n) (h : numB bs = 0) : bs = List.replicate n false :=
  numB_inj (by rw [hl, List.length_replicate]) (by rw [h, num_zeros])
theorem rep_getD {N n i : Nat} (h : i < N) : (List.replicate N n).getD i 0 = n := by
  rw [List.getD_eq_getElem?_getD, List.getElem?_replicate, if_pos h]; rfl
/-- with enough hands in each tick one can go on as long as one likes -/
theorem back_rep {js : List Job} (G : Good 16 js) {n N : Nat} (al : Back js (handsL n js) (spanN js) 0 (List.replicate js.length false)) : ∀ (k r q : Nat) (as : List Bool), r + spanN js * q + k = N → r < spanN js → Back js (handsL n js) (spanN js - r) r as →
    Back js (List.replicate N n) k (r + spanN js * q) as
  | 0, _, _, _, _, _, _ => trivial
  | k + 1, r, q, as, hN, hr, b => by
    rw [show spanN js - r = (spanN js - (r + 1)) + 1 by omega] at b
    obtain ⟨cs, bs, st, b2⟩ := b
    have hh : (List.replicate N n).getD (r + spanN js * q) 0 = (handsL n js).getD r 0 := by rw [rep_getD (i := r + spanN js * q) (N := N) (by omega), hands_getD hr]
    refine ⟨cs, bs, step_round G st hh, ?_⟩
    by_cases c : r + 1 < spanN js
    · have := back_rep (N := N) G al k (r + 1) q bs (by omega) c b2
      rw [show r + spanN js * q + 1 = r + 1 + spanN js * q by omega]; exact this
    · have er : r + 1 = spanN js := by omega
      have z : numB bs = 0 := by
        have d := st.2.2
        rw [show (r : Int) + 1 = (spanN js : Int) by omega] at d
        exact db_span G (.inr rfl) d
      rw [zeros_of st.len.2.2 z]
      have e : r + spanN js * q + 1 = 0 + spanN js * (q + 1) := by rw [Nat.mul_add]; omega
      rw [e]
      exact back_rep (N := N) G al k 0 (q + 1) _ (by rw [← e]; omega) (span_pos G) al
theorem alive_rep {js : List Job} (G : Good 16 js) {n N : Nat} (al : aliveB js (handsL n js) 0 0 = true) : aliveB js (List.replicate N n) 0 0 = true := by
  have al := alive_back.mp al
  rw [show (handsL n js).length = spanN js from List.length_replicate] at al
  refine alive_back.mpr ?_
  rw [List.length_replicate]
  have := back_rep (N := N) (n := n) G al N 0 0 (List.replicate js.length false) (by omega) (span_pos G) (by rw [Nat.sub_zero]; exact al)
  exact this
end Ts
namespace Ts
open PySem PySem.Spec PyProof.Rows L2
theorem sqt_bas {K : PySem.W.Frag} {H H' : Hp} {b p : Addr} {xs : List V} (B : Bas H b) (bt : But b H H') (h : SqT K H p xs) : SqT K H' p xs := by
  obtain ⟨y, z, u, e⟩ := B
  rcases h with (h | ⟨o, h⟩) | h
  · exact .inl (.inl (bt _ _ (fun q => by rw [q, e] at h; cases h) h))
  · exact .inl (.inr ⟨o, bt _ _ (fun q => by rw [q, e] at h; cases h) h⟩)
  · exact .inr h
end Ts
namespace Ts
open PySem PySem.Spec PyProof.Rows L2 L2H LamX
/-! ## plans asked wrongly -/
theorem ThingS.ext {K : PySem.W.Frag} {H H' : Hp} {v : V} {t : Option (List (Option Int))} (h : ThingS K H v t) (s : ExtN H H') : ThingS K H' v t := by
  cases t with
  | none => obtain ⟨T, h1, h2⟩ := h; exact ⟨T, h1, TyX.ext h2 s⟩
  | some os => obtain ⟨p, xs, h1, h2, h3, h4⟩ := h; exact ⟨p, xs, h1, sqt_ext h2 s, h3, fun i x o a b => (h4 i x o a b).ext s⟩
def spAsked47 (K : PySem.W.Frag) (C : Addr) (T : List (Addr × Str)) : Sp := fun vs H Q _ => ∃ (v u : V) (o : Option (Nat × List Job)) (t : Option (List (Option Int))) (tt : Str) (x : V), vs = [v, u] ∧ Tabs T H ∧ LotOr K C H v o ∧ ThingS K H u t ∧ (∀ n js, o = some (n, js) → Good 16 js ∧ 0 < js.length ∧ js.length ≤ 6) ∧
  ((o = none ∧ tt = "NotALot" ∧ x = v) ∨ (o ≠ none ∧ wrongC t = some x ∧ tt = "InvalidCounts")) ∧
  ∀ (lt : Addr) (H' : Hp) (xs : List V), Told T H H' lt xs (List.replicate 3 (tt, x)) → Q (.ref lt) H'
end Ts
namespace Ts
open PySem PySem.Spec PyProof.Rows L2 L2H LamX
/-! ## numbers and what is none, one after another -/
def KAll (K : PySem.W.Frag) (H : Hp) (xs : List V) (os : List (Option Int)) : Prop := xs.length = os.length ∧ ∀ (i : Nat) (x : V) (o : Option Int), xs[i]? = some x → os[i]? = some o → KindV K H x o
theorem KAll.nil {K : PySem.W.Frag} {H : Hp} : KAll K H [] [] := ⟨rfl, fun i x o h => by simp at h⟩
theorem KAll.cons {K : PySem.W.Frag} {H : Hp} {x : V} {o : Option Int} {xs : List V} {os : List (Option Int)} (h : KindV K H x o) (t : KAll K H xs os) : KAll K H (x :: xs) (o :: os) := by
  refine ⟨by rw [List.length_cons, List.length_cons, t.1], fun i y z h1 h2 => ?_⟩
  cases i with
  | zero => cases Option.some.inj h1; cases Option.some.inj h2; exact h
  | succ i => exact t.2 i y z (by simpa using h1) (by simpa using h2)
theorem KAll.rep {K : PySem.W.Frag} {H : Hp} {x : V} {o : Option Int} {xs : List V} {os : List (Option Int)} (h : KindV K H x o) (t : KAll K H xs os) : ∀ k, KAll K H (List.replicate k x ++ xs) (List.replicate k o ++ os)
  | 0 => t
  | k + 1 => .cons h (KAll.rep h t k)
theorem KAll.thing {K : PySem.W.Frag} {H : Hp} {p : Addr} {xs : List V} {os : List (Option Int)} (t : KAll K H xs os) (h : SqT K H p xs) : ThingS K H (.ref p) (some os) := ⟨p, xs, rfl, h, t.1, t.2⟩
theorem badCo_rep {n : Nat} (hn : n ≤ 6) {o : Option Int} {r : List (Option Int)} : ∀ {k i : Nat}, i + k ≤ 60 → (i + k = 60 ∨ inRg o 0 6 = false) → badCo (List.replicate k (some (n : Int)) ++ o :: r) i = some (i + k)
  | 0, i, _, h => by
    show (if i = 60 ∨ inRg o 0 6 = false then some i else badCo r (i + 1)) = some (i + 0)
    rw [if_pos (by simpa using h)]; rfl
  | k + 1, i, hk, h => by
    show (if i = 60 ∨ inRg (some (n : Int)) 0 6 = false then some i else badCo (List.replicate k (some (n : Int)) ++ o :: r) (i + 1)) = some (i + (k + 1))
    rw [if_neg, badCo_rep hn (k := k) (i := i + 1) (by omega) (by rw [show i + 1 + k = i + (k + 1) by omega]; exact h), show i + 1 + k = i + (k + 1) by omega]
    rintro (z | z)
    · omega
    · have z : decide ((0 : Int) ≤ (n : Int) ∧ (n : Int) ≤ 6) = false := z
      have := of_decide_eq_false z
      omega
theorem wrongC_bad {os : List (Option Int)} {j : Nat} (h : badCo os 0 = some j) : wrongC (some os) = some (V.int (j : Int)) := by
  cases os with
  | nil => cases h
  | cons o r =>
    unfold wrongC
    dsimp only
    rw [h]; rfl
theorem wrongC_rep {n : Nat} (hn : n ≤ 6) {o : Option Int} {r : List (Option Int)} {k : Nat} (hk : k ≤ 60) (h : k = 60 ∨ inRg o 0 6 = false) : wrongC (some (List.replicate k (some (n : Int)) ++ o :: r)) = some (V.int (k : Int)) := by
  have := badCo_rep hn (o := o) (r := r) (k := k) (i := 0) (by omega) (by rw [Nat.zero_add]; exact h)
  rw [Nat.zero_add] at this
  exact wrongC_bad this
end Ts
namespace Ts
open PySem PySem.Spec PyProof.Rows L2 LamX
/-! ## the head by facts: defs where they stand, one Bool of facts, tables of code -/
structure DefF where
  adr : PySem.W.Frag → Addr
  name : Str
  qual : Str
  st : Stmt
def DefF.said (d : DefF) : He.FnV := some (d.name, d.qual, defArgs d.st, .stmts (defBody d.st), defScope d.st, mainGlobals, [], .none, builtinsNs)
def seenF (K : PySem.W.Frag) (a : Addr) : He.FnV := match K.lookup a with
  | some o => (match o.data with
    | .func fd => some (fd.name, fd.qualname, fd.params, fd.body, fd.scope, fd.globals, fd.closure, fd.defaults, fd.builtins)
    | _ => none)
  | none => none
def codeF (K : PySem.W.Frag) (a : Addr) (q : Str) : Bool := match K.lookup a with
  | some o => (match o.data with
    | .func fd => PySem.W.codeIn K fd.code q
    | _ => false)
  | none => false
theorem defF_ok {K : PySem.W.Frag} {d : DefF} (e : seenF K (d.adr K) = d.said) (c : codeF K (d.adr K) d.qual = true) :
    ∃ (oc : Value) (od : Option Addr) (sl : Array (Option Value)) (kV dc pm : Value) (an : Option Addr) (cd ct : Value), K.lookup (d.adr K) = some ⟨oc, od, .func (PySem.W.fnOf d.name d.qual (defArgs d.st) (defBody d.st) (defScope d.st) .none kV dc pm an cd ct), sl⟩ ∧ PySem.W.codeIn K cd d.qual = true := by
  unfold seenF at e
  unfold codeF at c
  cases hl : K.lookup (d.adr K) with
  | none => rw [hl] at c; cases c
  | some o =>
    obtain ⟨oc, od, dt, sl⟩ := o
    rw [hl] at c e
    cases dt with
    | func fd =>
      obtain ⟨m1, m2, m3, m4, m5, m6, m7, m8, m9, p1, p2, p3, p4, p5, p6⟩ := fd
      have e9 : (some (m1, m2, m3, m4, m5, m6, m7, m8, p6) : He.FnV) = some (d.name, d.qual, defArgs d.st, .stmts (defBody d.st), defScope d.st, mainGlobals, [], .none, builtinsNs) := e
      simp only [Option.some.injEq, Prod.mk.injEq] at e9
      obtain ⟨rfl, rfl, rfl, rfl, rfl, rfl, rfl, rfl, rfl⟩ := e9
      exact ⟨oc, od, sl, m9, p1, p2, p3, p4, p5, rfl, c⟩
    | _ => cases c
/-- a def's code object and its table -/
def codeAd (K : PySem.W.Frag) (f : Addr) : Addr := match K.lookup f with
  | some o => (match o.data with
    | .func fd => (match fd.code with
      | .ref c => c
      | _ => 0)
    | _ => 0)
  | none => 0
def tabAd (K : PySem.W.Frag) (c : Addr) : Addr := match K.lookup c with
  | some o => (match o.data with
    | .fields vs => (match vs.getD 11 .none with
      | .ref p => p
      | _ => 0)
    | _ => 0)
  | none => 0
theorem codeAd_ok {K : PySem.W.Frag} {f : Addr} {o : Obj} {fd : FuncData} (l : K.lookup f = some o) (e : o.data = .func fd) {q : Str} (c : PySem.W.codeIn K fd.code q = true) : fd.code = .ref (codeAd K f) := by
  unfold codeAd
  rw [l]
  show fd.code = .ref (match o.data with | .func fd => (match fd.code with | .ref c => c | _ => 0) | _ => 0)
  rw [e]
  cases h : fd.code with
  | ref z => show Value.ref z = .ref (match fd.code with | .ref c => c | _ => 0); rw [h]
  | _ => rw [h] at c; cases c
/-- the token of a number or a text of the top -/
def tokAd (K : PySem.W.Frag) (x : Str) : Tok := match PySem.W.nsIn K mainGlobals x with
  | some (some (.int _ t)) => t
  | some (some (.str _ t)) => t
  | _ => default
/-- what a property's object was made of -/
def getAd (K : PySem.W.Frag) (p : Addr) : Addr := match PySem.W.recIn K p "property" with
  | some (.ref f :: _) => f
  | _ => 0
def restAd (K : PySem.W.Frag) (p : Addr) : List Value := match PySem.W.recIn K p "property" with
  | some (_ :: r) => r
  | _ => []
abbrev AlF : Type := Bool × List He.FnV
def okF (fn : List DefF) (tf : List (PySem.W.Frag → Addr × Addr)) (ex : PySem.W.Frag → Bool) (g : Addr → Option Obj) (K : PySem.W.Frag) : Bool :=
  (fn.all fun d => codeF K (d.adr K) d.qual) && (ex K && tf.all fun p => PySem.W.codeHdIn K (p K).1 (p K).2 && (match g (p K).2 with
    | some o => He.emptyTab o
    | none => false))
def lookF (fn : List DefF) (tf : List (PySem.W.Frag → Addr × Addr)) (ex : PySem.W.Frag → Bool) (g : Addr → Option Obj) (K : PySem.W.Frag) : AlF := (okF fn tf ex g K, fn.map fun d => seenF K (d.adr K))
def dueF (fn : List DefF) : AlF := (true, fn.map DefF.said)
structure SaysF (fn : List DefF) (tf : List (PySem.W.Frag → Addr × Addr)) (ex : PySem.W.Frag → Bool) (h : Heap) (K : PySem.W.Frag) : Prop where
  fns : fn.map (fun d => seenF K (d.adr K)) = fn.map DefF.said
  codes : ∀ d ∈ fn, codeF K (d.adr K) d.qual = true
  more : ex K = true
  heads : ∀ p ∈ tf, PySem.W.codeHdIn K (p K).1 (p K).2 = true
  outs : ∀ p ∈ tf, K.lookup (p K).2 = none
  empties : ∀ p ∈ tf, h.get? (p K).2 = some { cls := .none, data := .fields #[] }
theorem SaysF.def_ {fn : List DefF} {tf : List (PySem.W.Frag → Addr × Addr)} {ex : PySem.W.Frag → Bool} {h : Heap} {K : PySem.W.Frag} (S : SaysF fn tf ex h K) (i : Nat) {d : DefF} (hi : fn[i]? = some d := by rfl) :
    ∃ (oc : Value) (od : Option Addr) (sl : Array (Option Value)) (kV dc pm : Value) (an : Option Addr) (cd ct : Value), K.lookup (d.adr K) = some ⟨oc, od, .func (PySem.W.fnOf d.name d.qual (defArgs d.st) (defBody d.st) (defScope d.st) .none kV dc pm an cd ct), sl⟩ ∧ PySem.W.codeIn K cd d.qual = true := by
  have e : (fn.map fun d => seenF K (d.adr K))[i]? = (fn.map DefF.said)[i]? := by rw [S.fns]
  rw [List.getElem?_map, List.getElem?_map, hi] at e
  exact defF_ok (Option.some.inj e) (S.codes d (List.mem_of_getElem? hi))
theorem saysF_of {as : List Addr} {fn : List DefF} {tf : List (PySem.W.Frag → Addr × Addr)} {ex : PySem.W.Frag → Bool} {h : Heap} (e : lookF fn tf ex h.get? (He.frT h.get? as) = dueF fn) : SaysF fn tf ex h (He.frT h.get? as) := by
  have e1 := (Prod.mk.inj e).1
  have e2 := (Prod.mk.inj e).2
  unfold okF at e1
  obtain ⟨z1, z2⟩ := He.ba e1
  obtain ⟨z3, z4⟩ := He.ba z2
  have key : ∀ p ∈ tf, PySem.W.codeHdIn (He.frT h.get? as) (p (He.frT h.get? as)).1 (p (He.frT h.get? as)).2 = true ∧
      ∃ o, h.get? (p (He.frT h.get? as)).2 = some o ∧ He.emptyTab o = true := fun p hp => by
    obtain ⟨y1, y2⟩ := He.ba (List.all_eq_true.mp z4 p hp)
    refine ⟨y1, ?_⟩
    cases q : h.get? (p (He.frT h.get? as)).2 with
    | none => rw [q] at y2; cases y2
    | some o => rw [q] at y2; exact ⟨o, rfl, y2⟩
  exact ⟨e2, fun d hd => List.all_eq_true.mp z1 d hd, z3, fun p hp => (key p hp).1,
    fun p hp => let ⟨_, _, q, z⟩ := key p hp; He.frT_none q z,
    fun p hp => let ⟨_, _, q, z⟩ := key p hp; by rw [q, He.emptyTab_eq z]⟩
def hookF (as : List Addr) (fn : List DefF) (tf : List (PySem.W.Frag → Addr × Addr)) (ex : PySem.W.Frag → Bool) : PySem.W.Hook where
  α := AlF
  obs := fun s => lookF fn tf ex s.heap.get? (He.frT s.heap.get? as)
  val := fun _ => dueF fn
  says := fun _ h => ∃ K : PySem.W.Frag, K.In h ∧ SaysF fn tf ex h K
  of := fun _ _ e => ⟨_, He.frT_in, saysF_of e⟩
  keeps := fun _ _ _ ⟨K, hK, c⟩ k => ⟨K, PySem.W.Frag.In.keeps hK k, ⟨c.fns, c.codes, c.more, c.heads, c.outs, fun p hp => k _ _ (c.empties p hp)⟩⟩
def viewF (as : List Addr) (fn : List DefF) (tf : List (PySem.W.Frag → Addr × Addr)) (ex : PySem.W.Frag → Bool) (g : Addr → Option Obj) : AlF := lookF fn tf ex g (He.frT g as)
theorem viewF_eq {as : List Addr} {fn : List DefF} {tf : List (PySem.W.Frag → Addr × Addr)} {ex : PySem.W.Frag → Bool} (s : PySem.W.SharedT) : viewF as fn tf ex (HandSHeadRun.getT s) = (hookF as fn tf ex).obs s.abs := by
  have e : HandSHeadRun.getT s = s.abs.heap.get? := funext (HandSHeadRun.getT_eq s)
  show lookF fn tf ex (HandSHeadRun.getT s) (He.frT (HandSHeadRun.getT s) as) = lookF fn tf ex s.abs.heap.get? (He.frT s.abs.heap.get? as)
  rw [e]
/-- the run of the top by the library's twins -/
noncomputable abbrev topF (r : PySem.W.OpenRow) (M : Nat) (w : World) : Option (Shared × PySem.W.SharedT) := HandSHeadRun.wholeF (fun p => HandSHeadRun.stepQ (HandSHeadRun.denQ HandSHeadRun.tabQ) p w) HandSHeadRun.fenceQ M r.prog
/-- its equation, asked in two parts -/
theorem run_two {r : PySem.W.OpenRow} {q : Program} {H : PySem.W.Hook} {ob : PySem.W.SharedT → H.α} {M : Nat} {loose : List Str} {w : World}
    (h1 : (topF r M w).map (fun x => (HandSHeadRun.looksF r.prog x.1.heap x.2.abs, HandSHeadRun.seenQ q loose (importedModules r.prog.main.body) (fun s => PySem.W.xlAt q [] s && PySem.W.recOk r.toRowW.records s) x.2.abs)) = some (true, PySem.W.openGood q loose))
    (h2 : (topF r M w).map (fun x => ob x.2) = some (H.val w)) : HandSHeadRun.RunEqI r q H ob M loose w := by
  show (topF r M w).map _ = _
  revert h1 h2
  generalize topF r M w = o
  intro h1 h2
  cases o with
  | none => cases h1
  | some x =>
    have a := Prod.mk.inj (Option.some.inj h1)
    have b := Option.some.inj h2
    exact congrArg some (Prod.ext a.1 (Prod.ext a.2 b))
/-! ### the law is called, over such a head -/
theorem walk_GFT {l : PySem.W.OpenLaw} {k : Nat} {q : Program} {loose : List Str} {XP : (Str → Option Value) → Heap → Prop} {YP : World → Heap → Prop} {d : DefRec} {x : Str}
    (most : l.most = some 63) (plain : d.params.defaults = []) (room : Room k callerA)
    (F : ∀ (w : World) (mg : Str → Option Value) (fa : Addr) (h : Heap), YP w h → h.Ns mainGlobals mg → mg d.name = some (.ref fa) →
      ∃ (K : PySem.W.Frag) (fd : FuncData) (cs : List (Addr × Addr)) (T : List (Addr × Str)), K.In h ∧ (∀ p ∈ cs, PySem.W.codeHdIn K p.1 p.2 = true) ∧ (∀ p ∈ cs, K.lookup p.2 = none) ∧
        (∀ p ∈ cs, h.get? p.2 = some { cls := .none, data := .fields #[] }) ∧ (∀ p ∈ T, ∃ c, (c, p.1) ∈ cs) ∧ (∀ (s : Shared) (u : Value), BindsTo s fd ⟨[u], []⟩ [(x, u)]) ∧
        ∀ base : Heap, (∀ p ∈ cs, TabB base mg p.1 p.2) → FnG l.prog w K mg base k fa fd [x] (spLawT K T)) :
    PySem.W.WalkO q loose XP YP l.row.toRowW d [] (fun f vs => PySem.call f vs) := by
  refine Att.attach_call most plain fun w s t mg mb fa o pm cd doc a vs ns G Y ho hd hcd hmg hobj hints hlen hg => ?_
  obtain ⟨K, fd, cs, T, inK, h1, h2, h3, h4, bind, hF⟩ := F w mg fa _ Y G.T.g hmg
  refine end_GT (cs := cs) inK G.T.g G.T.b G.T.builtins G.T.nolimit hg h3 h2 (fun p hp => PySem.W.codeHd_of_K inK (h1 p hp)) G.T.bmain hobj hints (Nat.le_trans hlen (by decide)) room (fun base _ _ tbb => hF base tbb) bind fun H hTT hS => ⟨a, ns, rfl, hS, hlen, fun p hp => ?_, fun _ => rfl⟩
  obtain ⟨c, hc⟩ := h4 p hp
  exact hTT _ hc
end Ts
namespace Ts
open PySem PySem.Spec PyProof.Rows L2 L2H LamX
abbrev s_crew_of : Stmt := top 3
theorem sc_crew_of : FnScope ["members", "at"] ["members"] (defScope s_crew_of) := ⟨rfl, rfl, rfl, by decide +kernel, rfl, by decide +kernel, by decide +kernel⟩
abbrev s_members_of : Stmt := top 4
theorem sc_members_of : FnScope ["crew", "at"] ["crew"] (defScope s_members_of) := ⟨rfl, rfl, rfl, by decide +kernel, rfl, by decide +kernel, by decide +kernel⟩
abbrev s_ticks_of : Stmt := top 5
theorem sc_ticks_of : FnScope ["way", "crew"] ["way"] (defScope s_ticks_of) := ⟨rfl, rfl, rfl, by decide +kernel, rfl, by decide +kernel, by decide +kernel⟩
abbrev s_sizes_of_crews : Stmt := top 6
theorem sc_sizes_of_crews : FnScope ["many", "sizes", "_", "size"] ["many"] (defScope s_sizes_of_crews) := ⟨rfl, rfl, rfl, by decide +kernel, rfl, by decide +kernel, by decide +kernel⟩
abbrev s_parts_of_crews : Stmt := top 7
theorem sc_parts_of_crews : FnScope ["many", "parts", "at", "within", "part"] ["many"] (defScope s_parts_of_crews) := ⟨rfl, rfl, rfl, by decide +kernel, rfl, by decide +kernel, by decide +kernel⟩
abbrev s_NotALot___init__ : Stmt := inClass (top 15) 0
theorem sc_NotALot___init__ : FnScope ["self", "given"] ["self", "given"] (defScope s_NotALot___init__) := ⟨rfl, rfl, rfl, by decide +kernel, rfl, by decide +kernel, by decide +kernel⟩
abbrev s_InvalidCounts___init__ : Stmt := inClass (top 17) 0
theorem sc_InvalidCounts___init__ : FnScope ["self", "index"] ["self", "index"] (defScope s_InvalidCounts___init__) := ⟨rfl, rfl, rfl, by decide +kernel, rfl, by decide +kernel, by decide +kernel⟩
abbrev s_is_number : Stmt := top 30
theorem sc_is_number : FnScope ["value", "low", "high"] ["value", "low", "high"] (defScope s_is_number) := ⟨rfl, rfl, rfl, by decide +kernel, rfl, by decide +kernel, by decide +kernel⟩
abbrev s_is_number_from : Stmt := top 31
theorem sc_is_number_from : FnScope ["value", "low"] ["value", "low"] (defScope s_is_number_from) := ⟨rfl, rfl, rfl, by decide +kernel, rfl, by decide +kernel, by decide +kernel⟩
abbrev s_is_name : Stmt := top 32
theorem sc_is_name : FnScope ["value", "letter"] ["value"] (defScope s_is_name) := ⟨rfl, rfl, rfl, by decide +kernel, rfl, by decide +kernel, by decide +kernel⟩
abbrev s_is_share : Stmt := top 33
theorem sc_is_share : FnScope ["value", "top", "bottom"] ["value"] (defScope s_is_share) := ⟨rfl, rfl, rfl, by decide +kernel, rfl, by decide +kernel, by decide +kernel⟩
abbrev s_Lot___init__ : Stmt := inClass (top 35) 0
theorem sc_Lot___init__ : FnScope ["self", "text", "first", "rows", "hands", "works"] ["self", "text"] (defScope s_Lot___init__) := ⟨rfl, rfl, rfl, by decide +kernel, rfl, by decide +kernel, by decide +kernel⟩
abbrev s_Lot_shares : Stmt := inClass (top 35) 4
theorem sc_Lot_shares : FnScope ["self"] ["self"] (defScope s_Lot_shares) := ⟨rfl, rfl, rfl, by decide +kernel, rfl, by decide +kernel, by decide +kernel⟩
abbrev s_check_lot : Stmt := top 36
theorem sc_check_lot : FnScope ["lot"] ["lot"] (defScope s_check_lot) := ⟨rfl, rfl, rfl, by decide +kernel, rfl, by decide +kernel, by decide +kernel⟩
abbrev s__read_hands : Stmt := top 38
theorem sc__read_hands : FnScope ["row", "words"] ["row"] (defScope s__read_hands) := ⟨rfl, rfl, rfl, by decide +kernel, rfl, by decide +kernel, by decide +kernel⟩
abbrev s__read_works : Stmt := top 39
theorem sc__read_works : FnScope ["rows", "works", "row", "work"] ["rows"] (defScope s__read_works) := ⟨rfl, rfl, rfl, by decide +kernel, rfl, by decide +kernel, by decide +kernel⟩
abbrev s__read_work : Stmt := top 40
theorem sc__read_work : FnScope ["row", "words", "word", "share"] ["row"] (defScope s__read_work) := ⟨rfl, rfl, rfl, by decide +kernel, rfl, by decide +kernel, by decide +kernel⟩
abbrev s__read_number : Stmt := top 41
theorem sc__read_number : FnScope ["word", "most", "number"] ["word", "most"] (defScope s__read_number) := ⟨rfl, rfl, rfl, by decide +kernel, rfl, by decide +kernel, by decide +kernel⟩
abbrev s__span_of : Stmt := top 43
theorem sc__span_of : FnScope ["shares", "span", "_", "bottom"] ["shares"] (defScope s__span_of) := ⟨rfl, rfl, rfl, by decide +kernel, rfl, by decide +kernel, by decide +kernel⟩
abbrev s__total_of : Stmt := top 44
theorem sc__total_of : FnScope ["shares", "span", "top", "bottom", "parts", "common"] ["shares", "span"] (defScope s__total_of) := ⟨rfl, rfl, rfl, by decide +kernel, rfl, by decide +kernel, by decide +kernel⟩
abbrev s_turns_of : Stmt := top 46
theorem sc_turns_of : FnScope ["share", "moment", "top", "bottom"] ["share", "moment"] (defScope s_turns_of) := ⟨rfl, rfl, rfl, by decide +kernel, rfl, by decide +kernel, by decide +kernel⟩
abbrev s__quotient_up : Stmt := top 47
theorem sc__quotient_up : FnScope ["top", "bottom"] ["top", "bottom"] (defScope s__quotient_up) := ⟨rfl, rfl, rfl, by decide +kernel, rfl, by decide +kernel, by decide +kernel⟩
abbrev s_Walk___init__ : Stmt := inClass (top 49) 0
theorem sc_Walk___init__ : FnScope ["self", "shares", "hands", "moment", "share", "numbers", "row", "low", "_", "at", "high", "after"] ["self", "shares", "hands"] (defScope s_Walk___init__) := ⟨rfl, rfl, rfl, by decide +kernel, rfl, by decide +kernel, by decide +kernel⟩
abbrev s_Walk_is_alive : Stmt := inClass (top 49) 1
theorem sc_Walk_is_alive : FnScope ["self", "moment", "ahead"] ["self", "moment", "ahead"] (defScope s_Walk_is_alive) := ⟨rfl, rfl, rfl, by decide +kernel, rfl, by decide +kernel, by decide +kernel⟩
abbrev s_Walk_crews : Stmt := inClass (top 49) 2
theorem sc_Walk_crews : FnScope ["self", "moment", "ahead", "grown", "needed", "free", "room", "part"] ["self", "moment", "ahead"] (defScope s_Walk_crews) := ⟨rfl, rfl, rfl, by decide +kernel, rfl, by decide +kernel, by decide +kernel⟩
abbrev s_Walk_choices : Stmt := inClass (top 49) 3
theorem sc_Walk_choices : FnScope ["self", "moment", "ahead", "living", "shift", "crew"] ["self", "moment", "ahead"] (defScope s_Walk_choices) := ⟨rfl, rfl, rfl, by decide +kernel, rfl, by decide +kernel, by decide +kernel⟩
abbrev s_Walk_ahead_behind : Stmt := inClass (top 49) 4
theorem sc_Walk_ahead_behind : FnScope ["self", "moment", "ahead", "crew"] ["self", "moment", "ahead", "crew"] (defScope s_Walk_ahead_behind) := ⟨rfl, rfl, rfl, by decide +kernel, rfl, by decide +kernel, by decide +kernel⟩
abbrev s_Walk_numbers_of : Stmt := inClass (top 49) 6
theorem sc_Walk_numbers_of : FnScope ["self", "moment", "ahead", "at", "low"] ["self", "moment", "ahead"] (defScope s_Walk_numbers_of) := ⟨rfl, rfl, rfl, by decide +kernel, rfl, by decide +kernel, by decide +kernel⟩
abbrev s__grown_between : Stmt := top 50
theorem sc__grown_between : FnScope ["before", "after", "at", "low"] ["before", "after"] (defScope s__grown_between) := ⟨rfl, rfl, rfl, by decide +kernel, rfl, by decide +kernel, by decide +kernel⟩
abbrev s__living_of : Stmt := top 51
theorem sc__living_of : FnScope ["walk", "many", "parts", "part", "possible", "at", "ahead", "not_ahead", "living", "moment", "before"] ["walk", "many"] (defScope s__living_of) := ⟨rfl, rfl, rfl, by decide +kernel, rfl, by decide +kernel, by decide +kernel⟩
abbrev s__standings_before : Stmt := top 52
theorem sc__standings_before : FnScope ["after", "grown", "not_ahead", "most", "found", "at", "others", "step", "pairs", "idle", "given", "told", "standings"] ["after", "grown", "not_ahead", "most"] (defScope s__standings_before) := ⟨rfl, rfl, rfl, by decide +kernel, rfl, by decide +kernel, by decide +kernel⟩
abbrev s_any_way : Stmt := top 54
theorem sc_any_way : FnScope ["walk", "ahead", "way", "moment", "crew"] ["walk"] (defScope s_any_way) := ⟨rfl, rfl, rfl, by decide +kernel, rfl, by decide +kernel, by decide +kernel⟩
abbrev s_plan : Stmt := top 56
theorem sc_plan : FnScope ["lot", "counts"] ["lot", "counts"] (defScope s_plan) := ⟨rfl, rfl, rfl, by decide +kernel, rfl, by decide +kernel, by decide +kernel⟩
abbrev s_longest : Stmt := top 57
theorem sc_longest : FnScope ["lot", "counts", "layer"] ["lot", "counts"] (defScope s_longest) := ⟨rfl, rfl, rfl, by decide +kernel, rfl, by decide +kernel, by decide +kernel⟩
abbrev s_least_more : Stmt := top 58
theorem sc_least_more : FnScope ["lot", "counts", "more", "number"] ["lot", "counts"] (defScope s_least_more) := ⟨rfl, rfl, rfl, by decide +kernel, rfl, by decide +kernel, by decide +kernel⟩
abbrev s_layers_of : Stmt := top 59
theorem sc_layers_of : FnScope ["lot", "counts", "walk", "layer", "layers", "moment", "behind", "ahead", "crew"] ["lot", "counts"] (defScope s_layers_of) := ⟨rfl, rfl, rfl, by decide +kernel, rfl, by decide +kernel, by decide +kernel⟩
abbrev s_check_counts : Stmt := top 60
theorem sc_check_counts : FnScope ["counts", "index", "number"] ["counts"] (defScope s_check_counts) := ⟨rfl, rfl, rfl, by decide +kernel, rfl, by decide +kernel, by decide +kernel⟩
abbrev s__standings_in : Stmt := top 61
theorem sc__standings_in : FnScope ["walk", "moment", "layer", "ahead"] ["walk", "moment", "layer"] (defScope s__standings_in) := ⟨rfl, rfl, rfl, by decide +kernel, rfl, by decide +kernel, by decide +kernel⟩
abbrev s__law_cell : Stmt := top 63
theorem sc__law_cell : FnScope ["_law_cells", "_law_spot", "_law_mixed", "_law_number"] ["_law_cells", "_law_spot"] (defScope s__law_cell) := ⟨rfl, rfl, rfl, by decide +kernel, rfl, by decide +kernel, by decide +kernel⟩
abbrev s__law_jar : Stmt := top 64
theorem sc__law_jar : FnScope ["_law_cells", "_law_spot", "_law_cell_here"] ["_law_cells", "_law_spot"] (defScope s__law_jar) := ⟨rfl, rfl, rfl, by decide +kernel, rfl, by decide +kernel, by decide +kernel⟩
abbrev s__law_dig : Stmt := top 65
theorem sc__law_dig : FnScope ["_law_jar_here", "_law_many", "_law_mixed", "_law_digit"] ["_law_jar_here", "_law_many"] (defScope s__law_dig) := ⟨rfl, rfl, rfl, by decide +kernel, rfl, by decide +kernel, by decide +kernel⟩
abbrev s__law_take : Stmt := top 66
theorem sc__law_take : FnScope ["_law_jar_here", "_law_some"] ["_law_jar_here", "_law_some"] (defScope s__law_take) := ⟨rfl, rfl, rfl, by decide +kernel, rfl, by decide +kernel, by decide +kernel⟩
abbrev s__law_lot : Stmt := top 67
theorem sc__law_lot : FnScope ["_law_jar_here", "_law_most", "_law_menu", "_law_tags", "_law_many", "_law_k"] ["_law_jar_here", "_law_most"] (defScope s__law_lot) := ⟨rfl, rfl, rfl, by decide +kernel, rfl, by decide +kernel, by decide +kernel⟩
abbrev s__law_fitting : Stmt := top 68
theorem sc__law_fitting : FnScope ["_law_jar_here", "_law_most", "_law_own", "_law_works", "_law_tag", "_law_e", "_law_p", "_law_needed"] ["_law_jar_here", "_law_most"] (defScope s__law_fitting) := ⟨rfl, rfl, rfl, by decide +kernel, rfl, by decide +kernel, by decide +kernel⟩
abbrev s__law_text : Stmt := top 69
theorem sc__law_text : FnScope ["_law_lot_here", "_law_rows", "_law_tag", "_law_e", "_law_p"] ["_law_lot_here"] (defScope s__law_text) := ⟨rfl, rfl, rfl, by decide +kernel, rfl, by decide +kernel, by decide +kernel⟩
abbrev s__law_sort : Stmt := top 70
theorem sc__law_sort : FnScope ["_law_e", "_law_found"] ["_law_e"] (defScope s__law_sort) := ⟨rfl, rfl, rfl, by decide +kernel, rfl, by decide +kernel, by decide +kernel⟩
abbrev s__law_caught : Stmt := top 71
theorem sc__law_caught : FnScope ["_law_act", "_law_given", "_law_e"] ["_law_act"] (defScope s__law_caught) := ⟨rfl, rfl, rfl, by decide +kernel, rfl, by decide +kernel, by decide +kernel⟩
abbrev s__law_odd : Stmt := top 72
theorem sc__law_odd : FnScope ["_law_jar_here"] ["_law_jar_here"] (defScope s__law_odd) := ⟨rfl, rfl, rfl, by decide +kernel, rfl, by decide +kernel, by decide +kernel⟩
abbrev s__law_asked : Stmt := top 73
theorem sc__law_asked : FnScope ["_law_thing", "_law_some", "_law_told"] ["_law_thing", "_law_some"] (defScope s__law_asked) := ⟨rfl, rfl, rfl, by decide +kernel, rfl, by decide +kernel, by decide +kernel⟩
abbrev s__law_right : Stmt := top 74
theorem sc__law_right : FnScope ["_law_jar_here", "_law_own", "_law_odd_here", "_law_made", "_law_ahead", "_law_bad", "_law_some"] ["_law_jar_here"] (defScope s__law_right) := ⟨rfl, rfl, rfl, by decide +kernel, rfl, by decide +kernel, by decide +kernel⟩
abbrev s_law : Stmt := top 75
theorem sc_law : FnScope ["_law_cells", "_law_k"] ["_law_cells"] (defScope s_law) := ⟨rfl, rfl, rfl, by decide +kernel, rfl, by decide +kernel, by decide +kernel⟩
def fF0 : DefF := ⟨fun K => He.ga K "_law_cell", "_law_cell", "_law_cell", s__law_cell⟩
def fF1 : DefF := ⟨fun K => He.ga K "_law_jar", "_law_jar", "_law_jar", s__law_jar⟩
def fF2 : DefF := ⟨fun K => He.ga K "_law_dig", "_law_dig", "_law_dig", s__law_dig⟩
def fF3 : DefF := ⟨fun K => He.ga K "_law_take", "_law_take", "_law_take", s__law_take⟩
def fF4 : DefF := ⟨fun K => He.ga K "_law_lot", "_law_lot", "_law_lot", s__law_lot⟩
def fF5 : DefF := ⟨fun K => He.ga K "_law_fitting", "_law_fitting", "_law_fitting", s__law_fitting⟩
def fF6 : DefF := ⟨fun K => He.ga K "_law_text", "_law_text", "_law_text", s__law_text⟩
def fF7 : DefF := ⟨fun K => He.ga K "_law_sort", "_law_sort", "_law_sort", s__law_sort⟩
def fF8 : DefF := ⟨fun K => He.ga K "_law_caught", "_law_caught", "_law_caught", s__law_caught⟩
def fF9 : DefF := ⟨fun K => He.ga K "_law_odd", "_law_odd", "_law_odd", s__law_odd⟩
def fF10 : DefF := ⟨fun K => He.ga K "_law_asked", "_law_asked", "_law_asked", s__law_asked⟩
def fF11 : DefF := ⟨fun K => He.ga K "_law_right", "_law_right", "_law_right", s__law_right⟩
def fF12 : DefF := ⟨fun K => He.ga K "law", "law", "law", s_law⟩
def fF13 : DefF := ⟨fun K => He.ga K "crew_of", "crew_of", "crew_of", s_crew_of⟩
def fF14 : DefF := ⟨fun K => He.ga K "members_of", "members_of", "members_of", s_members_of⟩
def fF15 : DefF := ⟨fun K => He.ga K "ticks_of", "ticks_of", "ticks_of", s_ticks_of⟩
def fF16 : DefF := ⟨fun K => He.ga K "sizes_of_crews", "sizes_of_crews", "sizes_of_crews", s_sizes_of_crews⟩
def fF17 : DefF := ⟨fun K => He.ga K "parts_of_crews", "parts_of_crews", "parts_of_crews", s_parts_of_crews⟩
def fF18 : DefF := ⟨fun K => He.ga K "is_number", "is_number", "is_number", s_is_number⟩
def fF19 : DefF := ⟨fun K => He.ga K "is_number_from", "is_number_from", "is_number_from", s_is_number_from⟩
def fF20 : DefF := ⟨fun K => He.ga K "is_name", "is_name", "is_name", s_is_name⟩
def fF21 : DefF := ⟨fun K => He.ga K "is_share", "is_share", "is_share", s_is_share⟩
def fF22 : DefF := ⟨fun K => He.ga K "check_lot", "check_lot", "check_lot", s_check_lot⟩
def fF23 : DefF := ⟨fun K => He.ga K "_read_hands", "_read_hands", "_read_hands", s__read_hands⟩
def fF24 : DefF := ⟨fun K => He.ga K "_read_works", "_read_works", "_read_works", s__read_works⟩
def fF25 : DefF := ⟨fun K => He.ga K "_read_work", "_read_work", "_read_work", s__read_work⟩
def fF26 : DefF := ⟨fun K => He.ga K "_read_number", "_read_number", "_read_number", s__read_number⟩
def fF27 : DefF := ⟨fun K => He.ga K "_span_of", "_span_of", "_span_of", s__span_of⟩
def fF28 : DefF := ⟨fun K => He.ga K "_total_of", "_total_of", "_total_of", s__total_of⟩
def fF29 : DefF := ⟨fun K => He.ga K "turns_of", "turns_of", "turns_of", s_turns_of⟩
def fF30 : DefF := ⟨fun K => He.ga K "_quotient_up", "_quotient_up", "_quotient_up", s__quotient_up⟩
def fF31 : DefF := ⟨fun K => He.ga K "_grown_between", "_grown_between", "_grown_between", s__grown_between⟩
def fF32 : DefF := ⟨fun K => He.ga K "_living_of", "_living_of", "_living_of", s__living_of⟩
def fF33 : DefF := ⟨fun K => He.ga K "_standings_before", "_standings_before", "_standings_before", s__standings_before⟩
def fF34 : DefF := ⟨fun K => He.ga K "any_way", "any_way", "any_way", s_any_way⟩
def fF35 : DefF := ⟨fun K => He.ga K "plan", "plan", "plan", s_plan⟩
def fF36 : DefF := ⟨fun K => He.ga K "longest", "longest", "longest", s_longest⟩
def fF37 : DefF := ⟨fun K => He.ga K "least_more", "least_more", "least_more", s_least_more⟩
def fF38 : DefF := ⟨fun K => He.ga K "layers_of", "layers_of", "layers_of", s_layers_of⟩
def fF39 : DefF := ⟨fun K => He.ga K "check_counts", "check_counts", "check_counts", s_check_counts⟩
def fF40 : DefF := ⟨fun K => He.ga K "_standings_in", "_standings_in", "_standings_in", s__standings_in⟩
def fF41 : DefF := ⟨fun K => He.ma K (He.ga K "Lot") "__init__", "__init__", "Lot.__init__", s_Lot___init__⟩
def fF42 : DefF := ⟨fun K => getAd K (He.ma K (He.ga K "Lot") "shares"), "shares", "Lot.shares", s_Lot_shares⟩
def fF43 : DefF := ⟨fun K => He.ma K (He.ga K "Walk") "__init__", "__init__", "Walk.__init__", s_Walk___init__⟩
def fF44 : DefF := ⟨fun K => He.ma K (He.ga K "Walk") "is_alive", "is_alive", "Walk.is_alive", s_Walk_is_alive⟩
def fF45 : DefF := ⟨fun K => He.ma K (He.ga K "Walk") "crews", "crews", "Walk.crews", s_Walk_crews⟩
def fF46 : DefF := ⟨fun K => He.ma K (He.ga K "Walk") "choices", "choices", "Walk.choices", s_Walk_choices⟩
def fF47 : DefF := ⟨fun K => He.ma K (He.ga K "Walk") "ahead_behind", "ahead_behind", "Walk.ahead_behind", s_Walk_ahead_behind⟩
def fF48 : DefF := ⟨fun K => He.ma K (He.ga K "Walk") "numbers_of", "numbers_of", "Walk.numbers_of", s_Walk_numbers_of⟩
def fF49 : DefF := ⟨fun K => He.ma K (He.ga K "NotALot") "__init__", "__init__", "NotALot.__init__", s_NotALot___init__⟩
def fF50 : DefF := ⟨fun K => He.ma K (He.ga K "InvalidCounts") "__init__", "__init__", "InvalidCounts.__init__", s_InvalidCounts___init__⟩
def fnF : List DefF := [fF0, fF1, fF2, fF3, fF4, fF5, fF6, fF7, fF8, fF9, fF10, fF11, fF12, fF13, fF14, fF15, fF16, fF17, fF18, fF19, fF20, fF21, fF22, fF23, fF24, fF25, fF26, fF27, fF28, fF29, fF30, fF31, fF32, fF33, fF34, fF35, fF36, fF37, fF38, fF39, fF40, fF41, fF42, fF43, fF44, fF45, fF46, fF47, fF48, fF49, fF50]
abbrev Ex0 (K : PySem.W.Frag) : Prop := (PySem.W.nsIn K mainGlobals "_law_cell" = some (some (.ref (He.ga K "_law_cell")))) ∧ (PySem.W.keepIn K (.ref (He.ga K "_law_cell")) = true) ∧ (PySem.W.nsIn K mainGlobals "_law_jar" = some (some (.ref (He.ga K "_law_jar")))) ∧ (PySem.W.keepIn K (.ref (He.ga K "_law_jar")) = true) ∧ (PySem.W.nsIn K mainGlobals "_law_dig" = some (some (.ref (He.ga K "_law_dig")))) ∧ (PySem.W.keepIn K (.ref (He.ga K "_law_dig")) = true) ∧ (PySem.W.nsIn K mainGlobals "_law_take" = some (some (.ref (He.ga K "_law_take")))) ∧ (PySem.W.keepIn K (.ref (He.ga K "_law_take")) = true) ∧ (PySem.W.nsIn K mainGlobals "_law_lot" = some (some (.ref (He.ga K "_law_lot")))) ∧ (PySem.W.keepIn K (.ref (He.ga K "_law_lot")) = true) ∧ (PySem.W.nsIn K mainGlobals "_law_fitting" = some (some (.ref (He.ga K "_law_fitting")))) ∧ (PySem.W.keepIn K (.ref (He.ga K "_law_fitting")) = true)
abbrev Ex1 (K : PySem.W.Frag) : Prop := (PySem.W.nsIn K mainGlobals "_law_text" = some (some (.ref (He.ga K "_law_text")))) ∧ (PySem.W.keepIn K (.ref (He.ga K "_law_text")) = true) ∧ (PySem.W.nsIn K mainGlobals "_law_sort" = some (some (.ref (He.ga K "_law_sort")))) ∧ (PySem.W.keepIn K (.ref (He.ga K "_law_sort")) = true) ∧ (PySem.W.nsIn K mainGlobals "_law_caught" = some (some (.ref (He.ga K "_law_caught")))) ∧ (PySem.W.keepIn K (.ref (He.ga K "_law_caught")) = true) ∧ (PySem.W.nsIn K mainGlobals "_law_odd" = some (some (.ref (He.ga K "_law_odd")))) ∧ (PySem.W.keepIn K (.ref (He.ga K "_law_odd")) = true) ∧ (PySem.W.nsIn K mainGlobals "_law_asked" = some (some (.ref (He.ga K "_law_asked")))) ∧ (PySem.W.keepIn K (.ref (He.ga K "_law_asked")) = true) ∧ (PySem.W.nsIn K mainGlobals "_law_right" = some (some (.ref (He.ga K "_law_right")))) ∧ (PySem.W.keepIn K (.ref (He.ga K "_law_right")) = true)
abbrev Ex2 (K : PySem.W.Frag) : Prop := (PySem.W.nsIn K mainGlobals "law" = some (some (.ref (He.ga K "law")))) ∧ (PySem.W.keepIn K (.ref (He.ga K "law")) = true) ∧ (PySem.W.nsIn K mainGlobals "crew_of" = some (some (.ref (He.ga K "crew_of")))) ∧ (PySem.W.keepIn K (.ref (He.ga K "crew_of")) = true) ∧ (PySem.W.nsIn K mainGlobals "members_of" = some (some (.ref (He.ga K "members_of")))) ∧ (PySem.W.keepIn K (.ref (He.ga K "members_of")) = true) ∧ (PySem.W.nsIn K mainGlobals "ticks_of" = some (some (.ref (He.ga K "ticks_of")))) ∧ (PySem.W.keepIn K (.ref (He.ga K "ticks_of")) = true) ∧ (PySem.W.nsIn K mainGlobals "sizes_of_crews" = some (some (.ref (He.ga K "sizes_of_crews")))) ∧ (PySem.W.keepIn K (.ref (He.ga K "sizes_of_crews")) = true) ∧ (PySem.W.nsIn K mainGlobals "parts_of_crews" = some (some (.ref (He.ga K "parts_of_crews")))) ∧ (PySem.W.keepIn K (.ref (He.ga K "parts_of_crews")) = true)
abbrev Ex3 (K : PySem.W.Frag) : Prop := (PySem.W.nsIn K mainGlobals "is_number" = some (some (.ref (He.ga K "is_number")))) ∧ (PySem.W.keepIn K (.ref (He.ga K "is_number")) = true) ∧ (PySem.W.nsIn K mainGlobals "is_number_from" = some (some (.ref (He.ga K "is_number_from")))) ∧ (PySem.W.keepIn K (.ref (He.ga K "is_number_from")) = true) ∧ (PySem.W.nsIn K mainGlobals "is_name" = some (some (.ref (He.ga K "is_name")))) ∧ (PySem.W.keepIn K (.ref (He.ga K "is_name")) = true) ∧ (PySem.W.nsIn K mainGlobals "is_share" = some (some (.ref (He.ga K "is_share")))) ∧ (PySem.W.keepIn K (.ref (He.ga K "is_share")) = true) ∧ (PySem.W.nsIn K mainGlobals "check_lot" = some (some (.ref (He.ga K "check_lot")))) ∧ (PySem.W.keepIn K (.ref (He.ga K "check_lot")) = true) ∧ (PySem.W.nsIn K mainGlobals "_read_hands" = some (some (.ref (He.ga K "_read_hands")))) ∧ (PySem.W.keepIn K (.ref (He.ga K "_read_hands")) = true)
abbrev Ex4 (K : PySem.W.Frag) : Prop := (PySem.W.nsIn K mainGlobals "_read_works" = some (some (.ref (He.ga K "_read_works")))) ∧ (PySem.W.keepIn K (.ref (He.ga K "_read_works")) = true) ∧ (PySem.W.nsIn K mainGlobals "_read_work" = some (some (.ref (He.ga K "_read_work")))) ∧ (PySem.W.keepIn K (.ref (He.ga K "_read_work")) = true) ∧ (PySem.W.nsIn K mainGlobals "_read_number" = some (some (.ref (He.ga K "_read_number")))) ∧ (PySem.W.keepIn K (.ref (He.ga K "_read_number")) = true) ∧ (PySem.W.nsIn K mainGlobals "_span_of" = some (some (.ref (He.ga K "_span_of")))) ∧ (PySem.W.keepIn K (.ref (He.ga K "_span_of")) = true) ∧ (PySem.W.nsIn K mainGlobals "_total_of" = some (some (.ref (He.ga K "_total_of")))) ∧ (PySem.W.keepIn K (.ref (He.ga K "_total_of")) = true) ∧ (PySem.W.nsIn K mainGlobals "turns_of" = some (some (.ref (He.ga K "turns_of")))) ∧ (PySem.W.keepIn K (.ref (He.ga K "turns_of")) = true)
abbrev Ex5 (K : PySem.W.Frag) : Prop := (PySem.W.nsIn K mainGlobals "_quotient_up" = some (some (.ref (He.ga K "_quotient_up")))) ∧ (PySem.W.keepIn K (.ref (He.ga K "_quotient_up")) = true) ∧ (PySem.W.nsIn K mainGlobals "_grown_between" = some (some (.ref (He.ga K "_grown_between")))) ∧ (PySem.W.keepIn K (.ref (He.ga K "_grown_between")) = true) ∧ (PySem.W.nsIn K mainGlobals "_living_of" = some (some (.ref (He.ga K "_living_of")))) ∧ (PySem.W.keepIn K (.ref (He.ga K "_living_of")) = true) ∧ (PySem.W.nsIn K mainGlobals "_standings_before" = some (some (.ref (He.ga K "_standings_before")))) ∧ (PySem.W.keepIn K (.ref (He.ga K "_standings_before")) = true) ∧ (PySem.W.nsIn K mainGlobals "any_way" = some (some (.ref (He.ga K "any_way")))) ∧ (PySem.W.keepIn K (.ref (He.ga K "any_way")) = true) ∧ (PySem.W.nsIn K mainGlobals "plan" = some (some (.ref (He.ga K "plan")))) ∧ (PySem.W.keepIn K (.ref (He.ga K "plan")) = true)
abbrev Ex6 (K : PySem.W.Frag) : Prop := (PySem.W.nsIn K mainGlobals "longest" = some (some (.ref (He.ga K "longest")))) ∧ (PySem.W.keepIn K (.ref (He.ga K "longest")) = true) ∧ (PySem.W.nsIn K mainGlobals "least_more" = some (some (.ref (He.ga K "least_more")))) ∧ (PySem.W.keepIn K (.ref (He.ga K "least_more")) = true) ∧ (PySem.W.nsIn K mainGlobals "layers_of" = some (some (.ref (He.ga K "layers_of")))) ∧ (PySem.W.keepIn K (.ref (He.ga K "layers_of")) = true) ∧ (PySem.W.nsIn K mainGlobals "check_counts" = some (some (.ref (He.ga K "check_counts")))) ∧ (PySem.W.keepIn K (.ref (He.ga K "check_counts")) = true) ∧ (PySem.W.nsIn K mainGlobals "_standings_in" = some (some (.ref (He.ga K "_standings_in")))) ∧ (PySem.W.keepIn K (.ref (He.ga K "_standings_in")) = true) ∧ (PySem.W.nsIn K mainGlobals "Lot" = some (some (.ref (He.ga K "Lot")))) ∧ (PySem.W.findIn K (.ref (He.ga K "Lot")) "__init__" = some (some (.ref (He.ma K (He.ga K "Lot") "__init__"))))
abbrev Ex7 (K : PySem.W.Frag) : Prop := (PySem.W.keepIn K (.ref (He.ma K (He.ga K "Lot") "__init__")) = true) ∧ (PySem.W.isFn K (.ref (He.ma K (He.ga K "Lot") "__init__")) = true) ∧ (PySem.W.plainGet K (He.ga K "Lot") Str.empty = true) ∧ (PySem.W.hasDictIn K (He.ga K "Lot") = true) ∧ (PySem.W.plainOver K (He.ga K "Lot") = true) ∧ (PySem.W.findIn K (.ref (He.ga K "Lot")) "__setattr__" = some (some (.builtin "object.__setattr__"))) ∧ (PySem.W.makesIn K (He.ga K "Lot") = true) ∧ (PySem.W.keepIn K (.ref (He.ga K "Lot")) = true) ∧ (PySem.W.findIn K (.ref (He.ga K "Lot")) "__class__" = some (some (.builtin "object.__class__"))) ∧ (PySem.W.specialIn K (.builtin "object.__class__") "__get__" = some (some (.builtin "getset_descriptor.__get__"))) ∧ (PySem.W.takesIn K (.builtin "object.__class__") = some true) ∧ (PySem.W.mroIn K (He.ga K "Lot") (.type "object") = some true)
abbrev Ex8 (K : PySem.W.Frag) : Prop := (PySem.W.findIn K (.ref (He.ga K "Lot")) "_text" = some none) ∧ (PySem.W.findIn K (.ref (He.ga K "Lot")) "_hands" = some none) ∧ (PySem.W.findIn K (.ref (He.ga K "Lot")) "_names" = some none) ∧ (PySem.W.findIn K (.ref (He.ga K "Lot")) "_shares" = some none) ∧ (PySem.W.findIn K (.ref (He.ga K "Lot")) "_span" = some none) ∧ (PySem.W.findIn K (.ref (He.ga K "Lot")) "_total" = some none) ∧ (PySem.W.findIn K (.ref (He.ga K "Lot")) "shares" = some (some (.ref (He.ma K (He.ga K "Lot") "shares")))) ∧ (PySem.W.recIn K (He.ma K (He.ga K "Lot") "shares") "property" = some (.ref (getAd K (He.ma K (He.ga K "Lot") "shares")) :: (restAd K (He.ma K (He.ga K "Lot") "shares")))) ∧ (PySem.W.specialIn K (.ref (He.ma K (He.ga K "Lot") "shares")) "__get__" = some (some (.builtin "property.__get__"))) ∧ (PySem.W.takesIn K (.ref (He.ma K (He.ga K "Lot") "shares")) = some true) ∧ (PySem.W.keepIn K (.ref (getAd K (He.ma K (He.ga K "Lot") "shares"))) = true) ∧ (PySem.W.nsIn K mainGlobals "Walk" = some (some (.ref (He.ga K "Walk"))))
abbrev Ex9 (K : PySem.W.Frag) : Prop := (PySem.W.findIn K (.ref (He.ga K "Walk")) "__init__" = some (some (.ref (He.ma K (He.ga K "Walk") "__init__")))) ∧ (PySem.W.keepIn K (.ref (He.ma K (He.ga K "Walk") "__init__")) = true) ∧ (PySem.W.isFn K (.ref (He.ma K (He.ga K "Walk") "__init__")) = true) ∧ (PySem.W.plainGet K (He.ga K "Walk") Str.empty = true) ∧ (PySem.W.hasDictIn K (He.ga K "Walk") = true) ∧ (PySem.W.plainOver K (He.ga K "Walk") = true) ∧ (PySem.W.findIn K (.ref (He.ga K "Walk")) "__setattr__" = some (some (.builtin "object.__setattr__"))) ∧ (PySem.W.makesIn K (He.ga K "Walk") = true) ∧ (PySem.W.keepIn K (.ref (He.ga K "Walk")) = true) ∧ (PySem.W.findIn K (.ref (He.ga K "Walk")) "ticks" = some none) ∧ (PySem.W.findIn K (.ref (He.ga K "Walk")) "most" = some none) ∧ (PySem.W.findIn K (.ref (He.ga K "Walk")) "sizes" = some none)
abbrev Ex10 (K : PySem.W.Frag) : Prop := (PySem.W.findIn K (.ref (He.ga K "Walk")) "parts" = some none) ∧ (PySem.W.findIn K (.ref (He.ga K "Walk")) "lows" = some none) ∧ (PySem.W.findIn K (.ref (He.ga K "Walk")) "doubles" = some none) ∧ (PySem.W.findIn K (.ref (He.ga K "Walk")) "grown" = some none) ∧ (PySem.W.findIn K (.ref (He.ga K "Walk")) "living" = some none) ∧ (PySem.W.findIn K (.ref (He.ga K "Walk")) "is_alive" = some (some (.ref (He.ma K (He.ga K "Walk") "is_alive")))) ∧ (PySem.W.keepIn K (.ref (He.ma K (He.ga K "Walk") "is_alive")) = true) ∧ (PySem.W.isFn K (.ref (He.ma K (He.ga K "Walk") "is_alive")) = true) ∧ (PySem.W.findIn K (.ref (He.ga K "Walk")) "crews" = some (some (.ref (He.ma K (He.ga K "Walk") "crews")))) ∧ (PySem.W.keepIn K (.ref (He.ma K (He.ga K "Walk") "crews")) = true) ∧ (PySem.W.isFn K (.ref (He.ma K (He.ga K "Walk") "crews")) = true) ∧ (PySem.W.findIn K (.ref (He.ga K "Walk")) "choices" = some (some (.ref (He.ma K (He.ga K "Walk") "choices"))))
abbrev Ex11 (K : PySem.W.Frag) : Prop := (PySem.W.keepIn K (.ref (He.ma K (He.ga K "Walk") "choices")) = true) ∧ (PySem.W.isFn K (.ref (He.ma K (He.ga K "Walk") "choices")) = true) ∧ (PySem.W.findIn K (.ref (He.ga K "Walk")) "ahead_behind" = some (some (.ref (He.ma K (He.ga K "Walk") "ahead_behind")))) ∧ (PySem.W.keepIn K (.ref (He.ma K (He.ga K "Walk") "ahead_behind")) = true) ∧ (PySem.W.isFn K (.ref (He.ma K (He.ga K "Walk") "ahead_behind")) = true) ∧ (PySem.W.findIn K (.ref (He.ga K "Walk")) "numbers_of" = some (some (.ref (He.ma K (He.ga K "Walk") "numbers_of")))) ∧ (PySem.W.keepIn K (.ref (He.ma K (He.ga K "Walk") "numbers_of")) = true) ∧ (PySem.W.isFn K (.ref (He.ma K (He.ga K "Walk") "numbers_of")) = true) ∧ (PySem.W.kitOne K (.type "dict") (.ref (He.ga K "Lot")) = some false) ∧ (PySem.W.kitOne K (.type "NoneType") (.ref (He.ga K "Lot")) = some false) ∧ (PySem.W.kitOne K (.type "bool") (.ref (He.ga K "Lot")) = some false) ∧ (PySem.W.kitOne K (.type "int") (.ref (He.ga K "Lot")) = some false)
abbrev Ex12 (K : PySem.W.Frag) : Prop := (PySem.W.kitOne K (.type "str") (.ref (He.ga K "Lot")) = some false) ∧ (PySem.W.kitOne K (.type "list") (.ref (He.ga K "Lot")) = some false) ∧ (PySem.W.kitOne K (.type "tuple") (.ref (He.ga K "Lot")) = some false) ∧ (PySem.W.nsIn K mainGlobals "NotALot" = some (some (.ref (He.ga K "NotALot")))) ∧ (PySem.W.nsIn K mainGlobals "UnknownName" = some (some (.ref (He.ga K "UnknownName")))) ∧ (PySem.W.nsIn K mainGlobals "InvalidNumber" = some (some (.ref (He.ga K "InvalidNumber")))) ∧ (PySem.W.nsIn K mainGlobals "InvalidRule" = some (some (.ref (He.ga K "InvalidRule")))) ∧ (PySem.W.nsIn K mainGlobals "InvalidStanding" = some (some (.ref (He.ga K "InvalidStanding")))) ∧ (PySem.W.nsIn K mainGlobals "InvalidTable" = some (some (.ref (He.ga K "InvalidTable")))) ∧ (PySem.W.nsIn K mainGlobals "InvalidLates" = some (some (.ref (He.ga K "InvalidLates")))) ∧ (PySem.W.nsIn K mainGlobals "InvalidCounts" = some (some (.ref (He.ga K "InvalidCounts")))) ∧ (PySem.W.nsIn K mainGlobals "TooMany" = some (some (.ref (He.ga K "TooMany"))))
abbrev Ex13 (K : PySem.W.Frag) : Prop := (PySem.W.nsIn K mainGlobals "WrongValue" = some (some (.ref (He.ga K "WrongValue")))) ∧ (PySem.W.nsIn K mainGlobals "WrongName" = some (some (.ref (He.ga K "WrongName")))) ∧ (PySem.W.nsIn K mainGlobals "NoAnswer" = some (some (.ref (He.ga K "NoAnswer")))) ∧ (PySem.W.specialIn K (.builtin "object.__class__") "__get__" = some (some (.builtin "getset_descriptor.__get__"))) ∧ (PySem.W.takesIn K (.builtin "object.__class__") = some true) ∧ (PySem.W.excInitIn K (He.ga K "NotALot") [.type "ValueError", .type "Exception", .type "BaseException", .type "object"] "ValueError.__new__" = true) ∧ (PySem.W.excOver K (He.ga K "NotALot") [.type "ValueError", .type "Exception", .type "BaseException", .type "object"] = true) ∧ (PySem.W.findIn K (.ref (He.ga K "NotALot")) "__setattr__" = some (some (.builtin "object.__setattr__"))) ∧ (PySem.W.findIn K (.ref (He.ga K "NotALot")) "__getattribute__" = some (some (.builtin "BaseException.__getattribute__"))) ∧ (PySem.W.findIn K (.ref (He.ga K "NotALot")) "__getattr__" = some none) ∧ (PySem.W.findIn K (.ref (He.ga K "NotALot")) "__class__" = some (some (.builtin "object.__class__"))) ∧ (PySem.W.findIn K (.ref (He.ga K "NotALot")) "given" = some none)
abbrev Ex14 (K : PySem.W.Frag) : Prop := (PySem.W.subIn K (.ref (He.ga K "NotALot")) (.type "BaseException") = some true) ∧ (PySem.W.typeIn K (.ref (He.ga K "NotALot")) = some (.type "type")) ∧ (PySem.W.keepIn K (.ref (He.ga K "NotALot")) = true) ∧ (PySem.W.isClsIn K (He.ga K "NotALot") = true) ∧ (PySem.W.mroIn K (He.ga K "NotALot") (.type "object") = some true) ∧ (PySem.W.hasDictIn K (He.ga K "NotALot") = true) ∧ (PySem.W.findIn K (.ref (He.ga K "NotALot")) "__init__" = some (some (.ref (He.ma K (He.ga K "NotALot") "__init__")))) ∧ (PySem.W.keepIn K (.ref (He.ma K (He.ga K "NotALot") "__init__")) = true) ∧ (PySem.W.typeIn K (.ref (He.ma K (He.ga K "NotALot") "__init__")) = some (.type "function")) ∧ (PySem.W.kitOne K (.ref (He.ga K "NotALot")) (.ref (He.ga K "NotALot")) = some true) ∧ (PySem.W.kitOne K (.ref (He.ga K "NotALot")) (.ref (He.ga K "UnknownName")) = some false) ∧ (PySem.W.kitOne K (.ref (He.ga K "NotALot")) (.ref (He.ga K "InvalidNumber")) = some false)
abbrev Ex15 (K : PySem.W.Frag) : Prop := (PySem.W.kitOne K (.ref (He.ga K "NotALot")) (.ref (He.ga K "InvalidRule")) = some false) ∧ (PySem.W.kitOne K (.ref (He.ga K "NotALot")) (.ref (He.ga K "InvalidStanding")) = some false) ∧ (PySem.W.kitOne K (.ref (He.ga K "NotALot")) (.ref (He.ga K "InvalidTable")) = some false) ∧ (PySem.W.kitOne K (.ref (He.ga K "NotALot")) (.ref (He.ga K "InvalidLates")) = some false) ∧ (PySem.W.kitOne K (.ref (He.ga K "NotALot")) (.ref (He.ga K "InvalidCounts")) = some false) ∧ (PySem.W.kitOne K (.ref (He.ga K "NotALot")) (.ref (He.ga K "TooMany")) = some false) ∧ (PySem.W.exmAny K (.ref (He.ga K "NotALot")) [.ref (He.ga K "WrongValue"), .ref (He.ga K "WrongName"), .ref (He.ga K "NoAnswer")] = some true) ∧ (PySem.W.excInitIn K (He.ga K "InvalidCounts") [.type "ValueError", .type "Exception", .type "BaseException", .type "object"] "ValueError.__new__" = true) ∧ (PySem.W.excOver K (He.ga K "InvalidCounts") [.type "ValueError", .type "Exception", .type "BaseException", .type "object"] = true) ∧ (PySem.W.findIn K (.ref (He.ga K "InvalidCounts")) "__setattr__" = some (some (.builtin "object.__setattr__"))) ∧ (PySem.W.findIn K (.ref (He.ga K "InvalidCounts")) "__getattribute__" = some (some (.builtin "BaseException.__getattribute__"))) ∧ (PySem.W.findIn K (.ref (He.ga K "InvalidCounts")) "__getattr__" = some none)
abbrev Ex16 (K : PySem.W.Frag) : Prop := (PySem.W.findIn K (.ref (He.ga K "InvalidCounts")) "__class__" = some (some (.builtin "object.__class__"))) ∧ (PySem.W.findIn K (.ref (He.ga K "InvalidCounts")) "index" = some none) ∧ (PySem.W.subIn K (.ref (He.ga K "InvalidCounts")) (.type "BaseException") = some true) ∧ (PySem.W.typeIn K (.ref (He.ga K "InvalidCounts")) = some (.type "type")) ∧ (PySem.W.keepIn K (.ref (He.ga K "InvalidCounts")) = true) ∧ (PySem.W.isClsIn K (He.ga K "InvalidCounts") = true) ∧ (PySem.W.mroIn K (He.ga K "InvalidCounts") (.type "object") = some true) ∧ (PySem.W.hasDictIn K (He.ga K "InvalidCounts") = true) ∧ (PySem.W.findIn K (.ref (He.ga K "InvalidCounts")) "__init__" = some (some (.ref (He.ma K (He.ga K "InvalidCounts") "__init__")))) ∧ (PySem.W.keepIn K (.ref (He.ma K (He.ga K "InvalidCounts") "__init__")) = true) ∧ (PySem.W.typeIn K (.ref (He.ma K (He.ga K "InvalidCounts") "__init__")) = some (.type "function")) ∧ (PySem.W.kitOne K (.ref (He.ga K "InvalidCounts")) (.ref (He.ga K "NotALot")) = some false)
abbrev Ex17 (K : PySem.W.Frag) : Prop := (PySem.W.kitOne K (.ref (He.ga K "InvalidCounts")) (.ref (He.ga K "UnknownName")) = some false) ∧ (PySem.W.kitOne K (.ref (He.ga K "InvalidCounts")) (.ref (He.ga K "InvalidNumber")) = some false) ∧ (PySem.W.kitOne K (.ref (He.ga K "InvalidCounts")) (.ref (He.ga K "InvalidRule")) = some false) ∧ (PySem.W.kitOne K (.ref (He.ga K "InvalidCounts")) (.ref (He.ga K "InvalidStanding")) = some false) ∧ (PySem.W.kitOne K (.ref (He.ga K "InvalidCounts")) (.ref (He.ga K "InvalidTable")) = some false) ∧ (PySem.W.kitOne K (.ref (He.ga K "InvalidCounts")) (.ref (He.ga K "InvalidLates")) = some false) ∧ (PySem.W.kitOne K (.ref (He.ga K "InvalidCounts")) (.ref (He.ga K "InvalidCounts")) = some true) ∧ (PySem.W.kitOne K (.ref (He.ga K "InvalidCounts")) (.ref (He.ga K "TooMany")) = some false) ∧ (PySem.W.exmAny K (.ref (He.ga K "InvalidCounts")) [.ref (He.ga K "WrongValue"), .ref (He.ga K "WrongName"), .ref (He.ga K "NoAnswer")] = some true) ∧ (PySem.W.nsIn K mainGlobals "MOST_WORKS" = some (some (.int 6 (tokAd K "MOST_WORKS")))) ∧ (PySem.W.nsIn K mainGlobals "MOST_HANDS" = some (some (.int 6 (tokAd K "MOST_HANDS")))) ∧ (PySem.W.nsIn K mainGlobals "MOST_PERIOD" = some (some (.int 16 (tokAd K "MOST_PERIOD"))))
abbrev Ex18 (K : PySem.W.Frag) : Prop := (PySem.W.nsIn K mainGlobals "LONGEST_NAME" = some (some (.int 8 (tokAd K "LONGEST_NAME")))) ∧ (PySem.W.nsIn K mainGlobals "LETTERS" = some (some (.str (Str.ofString "abcdefghijklmnopqrstuvwxyz") (tokAd K "LETTERS")))) ∧ (PySem.W.nsIn K mainGlobals "MOST_COUNTS" = some (some (.int 60 (tokAd K "MOST_COUNTS")))) ∧ (PySem.W.nsIn K mainGlobals "len" = some none) ∧ (PySem.W.nsIn K mainGlobals "range" = some none) ∧ (PySem.W.nsIn K mainGlobals "abs" = some none) ∧ (PySem.W.nsIn K mainGlobals "divmod" = some none) ∧ (PySem.W.nsIn K mainGlobals "int" = some none) ∧ (PySem.W.nsIn K mainGlobals "str" = some none) ∧ (PySem.W.nsIn K mainGlobals "bool" = some none) ∧ (PySem.W.nsIn K mainGlobals "repr" = some none) ∧ (PySem.W.nsIn K mainGlobals "isinstance" = some none)
abbrev Ex19 (K : PySem.W.Frag) : Prop := (PySem.W.nsIn K mainGlobals "tuple" = some none) ∧ (PySem.W.nsIn K mainGlobals "list" = some none) ∧ (PySem.W.nsIn K mainGlobals "dict" = some none) ∧ (PySem.W.nsIn K mainGlobals "zip" = some none) ∧ (PySem.W.nsIn K mainGlobals "sum" = some none) ∧ (PySem.W.nsIn K mainGlobals "all" = some none) ∧ (PySem.W.nsIn K mainGlobals "max" = some none) ∧ (PySem.W.nsIn K mainGlobals "min" = some none) ∧ (PySem.W.nsIn K mainGlobals "sorted" = some none) ∧ (PySem.W.nsIn K mainGlobals "set" = some none) ∧ (PySem.W.nsIn K mainGlobals "enumerate" = some none) ∧ (PySem.W.nsIn K mainGlobals "gcd" = some (some (.builtin "math.gcd")))
abbrev Ex20 (K : PySem.W.Frag) : Prop := (PySem.W.nsIn K mainGlobals "lcm" = some (some (.builtin "math.lcm")))
def exF (K : PySem.W.Frag) : Bool := decide (Ex0 K) && (decide (Ex1 K) && (decide (Ex2 K) && (decide (Ex3 K) && (decide (Ex4 K) && (decide (Ex5 K) && (decide (Ex6 K) && (decide (Ex7 K) && (decide (Ex8 K) && (decide (Ex9 K) && (decide (Ex10 K) && (decide (Ex11 K) && (decide (Ex12 K) && (decide (Ex13 K) && (decide (Ex14 K) && (decide (Ex15 K) && (decide (Ex16 K) && (decide (Ex17 K) && (decide (Ex18 K) && (decide (Ex19 K) && (decide (Ex20 K)))))))))))))))))))))
def tfF : List (PySem.W.Frag → Addr × Addr) := [fun K => (codeAd K (He.ga K "_law_asked"), tabAd K (codeAd K (He.ga K "_law_asked")))]
def nmF0 : List Str := ["_wall", "crew_of", "members_of", "ticks_of", "sizes_of_crews", "parts_of_crews", "WrongValue", "InvalidText", "InvalidNumber", "InvalidRule", "InvalidStanding", "InvalidTable", "NotALot", "InvalidLates", "InvalidCounts", "WrongName", "UnknownName", "NoAnswer", "TooMany", "Alone"]
def nmF1 : List Str := ["MOST_WORKS", "MOST_HANDS", "MOST_PERIOD", "MOST_COUNTS", "LETTERS", "LONGEST_NAME", "is_number", "is_number_from", "is_name", "is_share", "Lot", "check_lot", "check_name", "_read_hands", "_read_works", "_read_work", "_read_number", "_text_of", "_span_of", "_total_of"]
def nmF2 : List Str := ["turns_of", "_quotient_up", "Walk", "_grown_between", "_living_of", "_standings_before", "any_way", "plan", "longest", "least_more", "layers_of", "check_counts", "_standings_in", "_law_cell", "_law_jar", "_law_dig", "_law_take", "_law_lot", "_law_fitting", "_law_text"]
def nmF3 : List Str := ["_law_sort", "_law_caught", "_law_odd", "_law_asked", "_law_right"]
def nmF : List Str := nmF0 ++ nmF1 ++ nmF2 ++ nmF3
abbrev rwF : PySem.W.OpenRow := PySem.W.OpenLaw.row PySem.Challenge.rw_tickshares_k47_plans_refused
abbrev vwF : Program := PySem.W.view rwF.prog [0, 75]
def asF0 : List Addr := [3, 6, 4, 49, 54, 59, 64, 69, 74, 91, 111, 130, 149, 168, 187, 206, 225, 244, 263, 283, 302, 322, 341, 350, 357, 362, 369, 476, 487, 494, 501, 508, 513, 520, 525, 532, 537, 544, 551, 602]
def asF1 : List Addr := [611, 616, 621, 628, 635, 640, 645, 652, 659, 664, 671, 678, 685, 692, 697, 702, 707, 714, 721, 728, 735, 742, 747, 0, 48, 53, 58, 63, 68, 73, 90, 110, 129, 148, 167, 186, 205, 224, 243, 262]
def asF2 : List Addr := [282, 301, 321, 340, 349, 356, 361, 368, 475, 486, 493, 500, 507, 512, 519, 524, 531, 536, 543, 550, 601, 610, 615, 620, 627, 634, 639, 644, 651, 658, 663, 670, 677, 684, 691, 696, 701, 706, 713, 720]
def asF3 : List Addr := [727, 734, 741, 746, 43, 44, 45, 46, 47, 50, 51, 52, 55, 56, 57, 60, 61, 62, 65, 66, 67, 70, 71, 72, 88, 89, 92, 108, 109, 127, 128, 146, 147, 165, 166, 184, 185, 203, 204, 222]
def asF4 : List Addr := [223, 241, 242, 260, 261, 264, 280, 281, 299, 300, 303, 319, 320, 338, 339, 344, 345, 346, 347, 348, 351, 352, 353, 354, 355, 358, 359, 360, 363, 364, 365, 366, 367, 383, 391, 399, 407, 415, 423, 431]
def asF5 : List Addr := [438, 445, 452, 459, 466, 473, 474, 477, 478, 481, 482, 483, 484, 485, 488, 489, 490, 491, 492, 495, 496, 497, 498, 499, 502, 503, 504, 505, 506, 509, 510, 511, 514, 515, 516, 517, 518, 521, 522, 523]
def asF6 : List Addr := [526, 527, 528, 529, 530, 533, 534, 535, 538, 539, 540, 541, 542, 545, 546, 547, 548, 549, 563, 570, 575, 580, 587, 594, 599, 600, 603, 604, 607, 608, 609, 612, 613, 614, 617, 618, 619, 622, 623, 624]
def asF7 : List Addr := [625, 626, 629, 630, 631, 632, 633, 636, 637, 638, 641, 642, 643, 646, 647, 648, 649, 650, 653, 654, 655, 656, 657, 660, 661, 662, 665, 666, 667, 668, 669, 672, 673, 674, 675, 676, 679, 680, 681, 682]
def asF8 : List Addr := [683, 686, 687, 688, 689, 690, 693, 694, 695, 698, 699, 700, 703, 704, 705, 708, 709, 710, 711, 712, 715, 716, 717, 718, 719, 722, 723, 724, 725, 726, 729, 730, 731, 732, 733, 736, 737, 738, 739, 740]
def asF9 : List Addr := [743, 744, 745, 87, 107, 126, 145, 164, 183, 202, 221, 240, 259, 279, 298, 318, 337, 382, 390, 398, 406, 414, 422, 430, 437, 444, 451, 458, 465, 472, 562, 569, 574, 579, 586, 593, 598, 82, 83, 84]
def asF10 : List Addr := [85, 86, 102, 103, 104, 105, 106, 121, 122, 123, 124, 125, 140, 141, 142, 143, 144, 159, 160, 161, 162, 163, 178, 179, 180, 181, 182, 197, 198, 199, 200, 201, 216, 217, 218, 219, 220, 235, 236, 237]
def asF11 : List Addr := [238, 239, 254, 255, 256, 257, 258, 274, 275, 276, 277, 278, 293, 294, 295, 296, 297, 313, 314, 315, 316, 317, 332, 333, 334, 335, 336, 377, 378, 379, 380, 381, 389, 397, 405, 413, 421, 429, 432, 433]
def asF12 : List Addr := [434, 435, 436, 439, 440, 441, 442, 443, 446, 447, 448, 449, 450, 453, 454, 455, 456, 457, 460, 461, 462, 463, 464, 467, 468, 469, 470, 471, 559, 560, 561, 564, 565, 566, 567, 568, 571, 572, 573, 576]
def asF13 : List Addr := [577, 578, 581, 582, 583, 584, 585, 588, 589, 590, 591, 592, 595, 596, 597, 384, 385, 386, 387, 388, 392, 393, 394, 395, 396, 400, 401, 402, 403, 404, 408, 409, 410, 411, 412, 416, 417, 418, 419, 420]
def asF14 : List Addr := [424, 425, 426, 427, 428]
def asF : List Addr := asF0 ++ asF1 ++ asF2 ++ asF3 ++ asF4 ++ asF5 ++ asF6 ++ asF7 ++ asF8 ++ asF9 ++ asF10 ++ asF11 ++ asF12 ++ asF13 ++ asF14
--RUN
set_option maxHeartbeats 0 in
theorem runA (w : World) : (topF rwF 20000 (w)).map (fun x => (HandSHeadRun.looksF rwF.prog x.1.heap x.2.abs, HandSHeadRun.seenQ vwF nmF (importedModules rwF.prog.main.body) (fun s => PySem.W.xlAt vwF [] s && PySem.W.recOk rwF.toRowW.records s) x.2.abs)) = some (true, PySem.W.openGood vwF nmF) := by
  kernel_rfl
set_option maxHeartbeats 0 in
theorem runB (w : World) : (topF rwF 20000 (w)).map (fun x => viewF asF fnF tfF exF (HandSHeadRun.getT x.2)) = some (dueF fnF) := by
  kernel_rfl
set_option maxHeartbeats 0 in
theorem runF (w : World) : HandSHeadRun.RunEqI rwF vwF (hookF asF fnF tfF exF) (fun s => viewF asF fnF tfF exF (HandSHeadRun.getT s)) 20000 nmF w := run_two (runA w) (runB w)
end Ts
namespace Ts
open PySem PySem.Spec PyProof.Rows L2
section
variable {P : Program} {w : World} {K : PySem.W.Frag} {mg : Str → Option Value} {base : Heap}
theorem has_is_number_from (D : DefAt K mg "is_number_from" s_is_number_from) (B : Blt0 mg) : Has P w K mg base 1 "is_number_from" ["value", "low"] spIsNumberFrom := by
  refine D.has (fun _ _ _ _ _ _ us hl => match us, hl with | [_, _], _ => rfl) fun f fd F => F.ok sc_is_number_from (fun vs H Q E h => ?_) (fun cdv A outer s H vs Q E hr h => ?_)
  · obtain ⟨v, lo, rfl, _⟩ := h; rfl
  obtain ⟨v, lo, rfl, q⟩ := h
  refine ⟨_, (pss_one (ps_ret (pe_and (pe_callB call_isi (by rfl) B.zisinstance (by decide +kernel) (pa_cons (pv 0) (pa_cons (pe_ty "int" B.zint) pa_nil))) (pe_and (pe_not (pe_callB call_isi (by rfl) B.zisinstance (by decide +kernel) (pa_cons (pv 0) (pa_cons (pe_ty "bool" B.zbool) pa_nil)))) (pe_one (pe_cmpR op_le (pv 1) (pv 0) (nomark _))))))), ?_⟩
  refine ⟨_, rfl, _, _, _, _, _, rfl, .ty "int", .base (.int v), kit_ty (r := true) (by decide +kernel), true, rfl, ?_⟩
  refine iteT ⟨_, rfl, _, _, _, _, _, rfl, .ty "bool", .base (.int v), kit_ty (r := false) (by decide +kernel), false, rfl, true, rfl, ?_⟩
  refine iteT ⟨_, rfl, _, rfl, _, _, rfl, rfl, q⟩
theorem has_is_number (D : DefAt K mg "is_number" s_is_number) (B : Blt0 mg) (h_is_number_from : Has P w K mg base 1 "is_number_from" ["value", "low"] spIsNumberFrom) : Has P w K mg base 2 "is_number" ["value", "low", "high"] spIsNumber := by
  refine D.has (fun _ _ _ _ _ _ us hl => match us, hl with | [_, _, _], _ => rfl) fun f fd F => F.ok sc_is_number (fun vs H Q E h => ?_) (fun cdv A outer s H vs Q E hr h => ?_)
  · obtain ⟨v, lo, hi, rfl, _⟩ := h; rfl
  obtain ⟨v, lo, hi, rfl, q⟩ := h
  refine ⟨_, (pss_one (ps_ret (pe_and (pe_h h_is_number_from (hr.mono (by decide)) (pa_cons (pv 0) (pa_cons (pv 1) pa_nil))) (pe_one (pe_cmpR op_le (pv 0) (pv 2) (nomark _)))))), ?_⟩
  refine ⟨_, rfl, _, rfl, v, lo, rfl, ?_⟩
  refine ⟨decide (lo ≤ v), rfl, ?_⟩
  refine ite2 (fun c => ?_) (fun c => ?_)
  · refine ⟨_, rfl, _, rfl, _, _, rfl, rfl, ?_⟩
    have e : decide (v ≤ hi) = decide (lo ≤ v ∧ v ≤ hi) := by
      have := of_decide_eq_true c
      by_cases z : v ≤ hi <;> simp [z, this]
    show Q (V.bl (decide (v ≤ hi))) _
    rw [e]; exact q
  · have e : false = decide (lo ≤ v ∧ v ≤ hi) := by
      refine (decide_eq_false fun z => c (decide_eq_true z.1)).symm
    rw [e]; exact q
theorem has_is_name (D : DefAt K mg "is_name" s_is_name) (B : Blt0 mg) (C : Cst mg) : Has P w K mg base 1 "is_name" ["value"] spIsName := by
  refine D.has (fun _ _ _ _ _ _ us hl => match us, hl with | [_], _ => rfl) fun f fd F => F.ok sc_is_name (fun vs H Q E h => ?_) (fun cdv A outer s H vs Q E hr h => ?_)
  · obtain ⟨t, rfl, _⟩ := h; rfl
  obtain ⟨t, rfl, ht, q⟩ := h
  refine ⟨_, (pss_cons (ps_if (PW.pt (pw_or (pt_not (pt_val (pe_callB call_isi (by rfl) B.zisinstance (by decide +kernel) (pa_cons (pv 0) (pa_cons (pe_ty "str" B.zstr) pa_nil))))) (pw_or1 (pt_not (pt_chain op_le op_le pe_int (pe_callB call_len_str (by rfl) B.zlen (by decide +kernel) (pa_cons (pv 0) pa_nil)) (pe_gint C.LONGEST_NAME)))))) (pss_one (ps_ret pe_bl)) pss_nil)
      (pss_one (ps_ret (pe_callB (call_allB rfl) (by rfl) B.zall (by decide +kernel) (pa_cons (pe_lc (own := [("letter", 1)]) rfl sc_is_name.nd (pi_str (pv 0)) (blkOk_by (N := ["value", "letter"]) (sc := defScope s_is_name) (own := [("letter", 1)]) (by decide +kernel)) (fun _ _ _ _ _ => (pg_name (i := 1) sc_is_name.nd rfl (.inl rfl) (.inr rfl))) (fun _ _ _ _ _ => pts_nil) (fun _ _ _ _ _ => (pe_cmpR op_in_sign (pv 1) (pe_gstr C.LETTERS) (by rfl)))) pa_nil))))), ?_⟩
  have hl := ht.1
  have hl2 := ht.2.1
  refine ⟨_, rfl, _, _, _, _, _, rfl, .ty "str", .base (.str t), kit_ty (r := true) (by decide +kernel), true, rfl, ?_⟩
  refine iteF ⟨_, rfl, _, rfl, Nat.le_of_lt (small1000 (by omega)), _, _, rfl, rfl, _, rfl, ?_⟩
  have c1 : decide ((1 : Int) ≤ (t.length : Int)) = true := decide_eq_true (by omega)
  have c2 : decide ((t.length : Int) ≤ 8) = true := decide_eq_true (by omega)
  rw [c1]
  refine iteT ⟨_, _, rfl, rfl, _, rfl, ?_⟩
  rw [c2]
  refine iteF ?_
  refine ⟨_, rfl, _, rfl, fun D2 hD => lc_it walk_str (fun i H1 => Same H H1 ∧ H1 D2 = some (.lst ((List.replicate i true).map V.bl))) ⟨same_new hD, upd_same⟩ (fun _ _ _ _ => True.intro) ?_ ?_⟩
  · rintro i x H1 H1' hi ⟨sm, e1⟩ ⟨rfl, c, hc, rfl⟩
    refine ⟨rfl, yesIf ⟨_, rfl, _, _, rfl, rfl, _, e1, ?_, Same.app hD sm, ?_⟩⟩
    · rw [List.length_map, List.length_replicate]
      refine small1000 ?_
      have : t.cps.size = t.length := rfl
      omega
    · have hm : c ∈ t.cps.toList := List.mem_of_getElem? (by rw [Array.getElem?_toList]; exact hc)
      have hin : decide (c ∈ (Str.ofString "abcdefghijklmnopqrstuvwxyz").cps.toList) = true := decide_eq_true (abc_has (ht.2.2 c hm))
      rw [upd_same, hin, List.replicate_succ', List.map_append]; rfl
  · rintro H1 ⟨sm, e1⟩
    refine ⟨_, _, rfl, SqL.of e1, ?_⟩
    have e : (List.replicate t.cps.size true).all id = true := by simp
    rw [e]; exact q H1 sm
theorem has_is_share (D : DefAt K mg "is_share" s_is_share) (B : Blt mg) (C : Cst mg) (h_is_number : Has P w K mg base 2 "is_number" ["value", "low", "high"] spIsNumber) : Has P w K mg base 3 "is_share" ["value"] spIsShare := by
  refine D.has (fun _ _ _ _ _ _ us hl => match us, hl with | [_], _ => rfl) fun f fd F => F.ok sc_is_share (fun vs H Q E h => ?_) (fun cdv A outer s H vs Q E hr h => ?_)
  · obtain ⟨q, e, p, rfl, _⟩ := h; rfl
  obtain ⟨t, e, p, rfl, ht, ⟨p1, p2, p3, p4⟩, q⟩ := h
  refine ⟨_, (pss_cons (ps_if (PW.pt (pw_or (pt_not (pt_val (pe_callB call_isi (by rfl) B.zisinstance (by decide +kernel) (pa_cons (pv 0) (pa_cons (pe_ty "tuple" B.ztuple) pa_nil))))) (pw_or1 (pt_cmpR op_ne (pe_callB call_len_seq (by rfl) B.zlen (by decide +kernel) (pa_cons (pv 0) pa_nil)) pe_int (nomark _))))) (pss_one (ps_ret pe_bl)) pss_nil)
      (pss_cons (ps_asg (pv 0) (pg_tup rfl (pgs_cons (pg_name (i := 1) sc_is_share.nd rfl (.inl rfl)) (pgs_cons (pg_name (i := 2) sc_is_share.nd rfl (.inl rfl)) pgs_nil))))
      (pss_cons (ps_if (PW.pt (pw_or (pt_not (pt_val (pe_h h_is_number (hr.mono (by decide)) (pa_cons (pv 2) (pa_cons pe_int (pa_cons (pe_gint C.MOST_PERIOD) pa_nil)))))) (pw_or1 (pt_not (pt_val (pe_h h_is_number (hr.mono (by decide)) (pa_cons (pv 1) (pa_cons pe_int (pa_cons (pv 2) pa_nil))))))))) (pss_one (ps_ret pe_bl)) pss_nil)
      (pss_one (ps_ret (pe_cmpR op_eq (pe_callBfun cr_gcd (by rfl) B.g_gcd (pa_cons (pv 1) (pa_cons (pv 2) pa_nil))) pe_int (nomark _))))))), ?_⟩
  refine ⟨_, rfl, _, _, _, _, _, rfl, .ty "tuple", .base (.tup ht), kit_ty (r := true) (by decide +kernel), true, rfl, ?_⟩
  refine iteF ⟨_, rfl, t, _, rfl, .inr (SqT.of ht), rfl, _, rfl, iteF ?_⟩
  refine ⟨_, rfl, t, _, rfl, SqT.of ht, rfl, _, _, rfl, _, _, rfl, rfl, ?_⟩
  refine ⟨_, rfl, _, _, _, rfl, _, rfl, ?_⟩
  have c1 : decide ((1 : Int) ≤ (p : Int) ∧ (p : Int) ≤ 16) = true := decide_eq_true (by omega)
  have c2 : decide ((1 : Int) ≤ (e : Int) ∧ (e : Int) ≤ (p : Int)) = true := decide_eq_true (by omega)
  rw [c1]
  refine iteF ⟨_, rfl, _, rfl, _, _, _, rfl, _, rfl, ?_⟩
  rw [c2]
  refine iteF ⟨_, rfl, _, rfl, _, _, rfl, rfl, ?_⟩
  have e1 : ((Nat.gcd ((e : Int)).natAbs ((p : Int)).natAbs : Nat) : Int) = 1 := by simp [p4]
  rw [e1]; exact q
end
end Ts
namespace Ts
open PySem PySem.Spec PyProof.Rows L2
section
variable {P : Program} {w : World} {K : PySem.W.Frag} {mg : Str → Option Value} {base : Heap}
theorem has_read_number (D : DefAt K mg "_read_number" s__read_number) (B : Blt mg) : Has P w K mg base 1 "_read_number" ["word", "most"] spReadNumber := by
  refine D.has (fun _ _ _ _ _ _ us hl => match us, hl with | [_, _], _ => rfl) fun f fd F => F.ok sc__read_number (fun vs H Q E h => ?_) (fun cdv A outer s H vs Q E hr h => ?_)
  · obtain ⟨n, m, rfl, _⟩ := h; rfl
  obtain ⟨n, m, rfl, n1, nm, m1, q⟩ := h
  refine ⟨_, (pss_cons (ps_for PassesOwn.never rfl (pi_range2 (by rfl) B.zrange (pa_cons pe_int (pa_cons (pe_op op_add (pv 1) pe_int) pa_nil))) (pg_name (i := 2) sc__read_number.nd rfl (.inl rfl)) (pss_one (ps_if (pt_cmpR op_eq (pv 0) (pe_callTy call_str_int (by rfl) B.zstr (by decide +kernel) (pa_cons (pv 2) pa_nil)) (nomark _)) (pss_one (ps_ret (pv 2))) pss_nil)))
      (pss_one (ps_ret pe_non))), ?_⟩
  refine ⟨_, rfl, _, _, rfl, rfl, 1, (m : Int) + 1, rfl, ⟨by omega, by omega, by omega, by omega⟩, for_range (lo := 1) (n := ((m : Int) + 1 - 1).toNat) (fun i σ H' => H' = H ∧ i < n ∧ ∃ v, σ = [some (.str (numS n)), some (.int m), v]) ⟨rfl, by omega, _, rfl⟩ ?_ ?_⟩
  · rintro i σ H' hi ⟨rfl, hin, v, rfl⟩
    have ec : (1 : Int) + (i : Int) = ((1 + i : Nat) : Int) := by omega
    refine ⟨_, rfl, _, rfl, _, rfl, num_okI (by omega) (by omega), rfl, _, rfl, ite2 (fun c => ?_) (fun c => ?_)⟩
    · have e : numS n = numS (1 + i) := by
        have := of_decide_eq_true c
        rw [ec] at this
        exact V.str.inj this
      have e2 := numS_inj e
      refine ⟨_, rfl, ?_⟩
      show Q (V.int ((1 : Int) + (i : Int))) _
      rw [ec, ← e2]; exact q
    · refine ⟨rfl, ?_, _, rfl⟩
      have : n ≠ 1 + i := fun e => c (by
        refine decide_eq_true ?_
        rw [ec, ← e]; rfl)
      omega
  · rintro σ H' ⟨rfl, hin, v, rfl⟩
    omega
theorem has_read_hands (D : DefAt K mg "_read_hands" s__read_hands) (B : Blt mg) (C : Cst mg) (h__read_number : Has P w K mg base 1 "_read_number" ["word", "most"] spReadNumber) : Has P w K mg base 2 "_read_hands" ["row"] spReadHands := by
  refine D.has (fun _ _ _ _ _ _ us hl => match us, hl with | [_], _ => rfl) fun f fd F => F.ok sc__read_hands (fun vs H Q E h => ?_) (fun cdv A outer s H vs Q E hr h => ?_)
  · obtain ⟨n, rfl, _⟩ := h; rfl
  obtain ⟨n, rfl, n1, n6, q⟩ := h
  refine ⟨_, (pss_cons (ps_set (i := 1) sc__read_hands.nd rfl (.inl rfl) (pe_split (pv 0) pe_str))
      (pss_cons (ps_if (PW.pt (pw_or (pt_cmpR op_ne (pe_callB call_len_seq (by rfl) B.zlen (by decide +kernel) (pa_cons (pv 1) pa_nil)) pe_int (nomark _)) (pw_or1 (pt_cmpR op_ne (pe_ix ix_list (pv 1) pe_int (fun _ _ => rfl)) pe_str (nomark _))))) (pss_one (ps_ret pe_non)) pss_nil)
      (pss_one (ps_ret (pe_h h__read_number (hr.mono (by decide)) (pa_cons (pe_ix ix_list (pv 1) pe_int (fun _ _ => rfl)) (pa_cons (pe_gint C.MOST_HANDS) pa_nil))))))), ?_⟩
  have ln : (handsS n).length + 2 ≤ sizeLine := by
    have := numS_len (n := n) (by omega)
    have l6 : (Str.ofString "hands ").length = 6 := by decide
    refine Nat.le_of_lt (small1000 ?_)
    unfold handsS
    rw [Str.length_append, l6]; omega
  refine ⟨_, rfl, ⟨_, rfl⟩, _, _, rfl, rfl, by decide, ln, fun p hp => ?_⟩
  rw [hands_split]
  have s1 : Same H (upd H p (.lst ([Str.ofString "hands", numS n].map V.str))) := same_new hp
  have e1 : (upd H p (.lst ([Str.ofString "hands", numS n].map V.str))) p = some (.lst [.str (Str.ofString "hands"), .str (numS n)]) := upd_same
  generalize upd H p (.lst ([Str.ofString "hands", numS n].map V.str)) = H1 at s1 e1
  refine ⟨_, rfl, p, _, rfl, .inl (SqL.of e1), rfl, _, rfl, iteF ?_⟩
  refine ⟨_, rfl, p, _, 0, _, rfl, rfl, SqL.of e1, atI_nat (j := 0) rfl, rfl, _, rfl, iteNS rfl ?_⟩
  refine ⟨_, rfl, p, _, 1, _, rfl, rfl, SqL.of e1, atI_nat (j := 1) rfl, n, 6, rfl, n1, n6, by decide, q _ s1⟩
theorem has_read_work (D : DefAt K mg "_read_work" s__read_work) (B : Blt mg) (C : Cst mg) (h__read_number : Has P w K mg base 1 "_read_number" ["word", "most"] spReadNumber)
    (h_is_name : Has P w K mg base 1 "is_name" ["value"] spIsName) (h_is_share : Has P w K mg base 3 "is_share" ["value"] spIsShare) : Has P w K mg base 4 "_read_work" ["row"] spReadWork := by
  refine D.has (fun _ _ _ _ _ _ us hl => match us, hl with | [_], _ => rfl) fun f fd F => F.ok sc__read_work (fun vs H Q E h => ?_) (fun cdv A outer s H vs Q E hr h => ?_)
  · obtain ⟨j, rfl, _⟩ := h; rfl
  obtain ⟨j, rfl, ht, hg, q⟩ := h
  refine ⟨_, (pss_cons (ps_set (i := 1) sc__read_work.nd rfl (.inl rfl) (pe_split (pv 0) pe_str))
      (pss_cons (ps_if (PW.pt (pw_or (pt_cmpR op_ne (pe_callB call_len_seq (by rfl) B.zlen (by decide +kernel) (pa_cons (pv 1) pa_nil)) pe_int (nomark _)) (pw_or (pt_cmpR op_ne (pe_ix ix_list (pv 1) pe_int (fun _ _ => rfl)) pe_str (nomark _)) (pw_or1 (pt_not (pt_val (pe_h h_is_name (hr.mono (by decide)) (pa_cons (pe_ix ix_list (pv 1) pe_int (fun _ _ => rfl)) pa_nil)))))))) (pss_one (ps_ret pe_non)) pss_nil)
      (pss_cons (ps_set (i := 3) sc__read_work.nd rfl (.inl rfl) (pe_callTy call_tuple_of (by rfl) B.ztuple (by decide +kernel) (pa_cons (pe_lc (own := [("word", 2)]) rfl sc__read_work.nd (pi_list (pe_split (pe_ix ix_list (pv 1) pe_int (fun _ _ => rfl)) pe_str)) (blkOk_by (N := ["row", "words", "word", "share"]) (sc := defScope s__read_work) (own := [("word", 2)]) (by decide +kernel)) (fun _ _ _ _ _ => (pg_name (i := 2) sc__read_work.nd rfl (.inl rfl) (.inr rfl))) (fun _ _ _ _ _ => pts_nil) (fun _ _ _ _ _ => (pe_h h__read_number (hr.mono (by decide)) (pa_cons (pv 2) (pa_cons (pe_gint C.MOST_PERIOD) pa_nil))))) pa_nil)))
      (pss_cons (ps_if (pt_not (pt_val (pe_h h_is_share (hr.mono (by decide)) (pa_cons (pv 3) pa_nil)))) (pss_one (ps_ret pe_non)) pss_nil)
      (pss_one (ps_ret (pe_tup (pa_cons (pe_ix ix_list (pv 1) pe_int (fun _ _ => rfl)) (pa_cons (pv 3) pa_nil))))))))), ?_⟩
  have hg2 : GoodPart 1000 j.2.1 j.2.2 := ⟨hg.1, hg.2.1, Nat.le_trans hg.2.2.1 (by decide), hg.2.2.2⟩
  obtain ⟨g1, g2, g3, g4⟩ := id hg
  have ln : (rowS j).length + 2 ≤ sizeLine := Nat.le_of_lt (small1000 (by have := rowS_len ht hg2; omega))
  refine ⟨_, rfl, ⟨_, rfl⟩, _, _, rfl, rfl, by decide, ln, fun p hp => ?_⟩
  rw [row_split ht]
  generalize hw2 : Txt.join (Str.ofString "/") [numS j.2.1, numS j.2.2] = w2
  have s1 : Same H (upd H p (.lst ([Str.ofString "work", j.1, w2].map V.str))) := same_new hp
  have e1 : (upd H p (.lst ([Str.ofString "work", j.1, w2].map V.str))) p = some (.lst [.str (Str.ofString "work"), .str j.1, .str w2]) := upd_same
  generalize upd H p (.lst ([Str.ofString "work", j.1, w2].map V.str)) = H1 at s1 e1
  refine ⟨_, rfl, p, _, rfl, .inl (SqL.of e1), rfl, _, rfl, iteF ?_⟩
  refine ⟨_, rfl, p, _, 0, _, rfl, rfl, SqL.of e1, atI_nat (j := 0) rfl, rfl, _, rfl, iteNS rfl ?_⟩
  refine ⟨_, rfl, p, _, 1, _, rfl, rfl, SqL.of e1, atI_nat (j := 1) rfl, j.1, rfl, ht, fun H2 s2 => ⟨true, rfl, iteF ?_⟩⟩
  have e2 := s2 _ _ e1
  -- the share's two sides
  have l2 : w2.length + 2 ≤ sizeLine := by
    rw [← hw2, join_two, Str.length_append, Str.length_append]
    have a := numS_len (n := j.2.1) (by omega)
    have b := numS_len (n := j.2.2) (by omega)
    have c : (Str.ofString "/").length = 1 := by decide
    exact Nat.le_of_lt (small1000 (by omega))
  refine ⟨_, rfl, p, _, 2, _, rfl, rfl, SqL.of e2, atI_nat (j := 2) rfl, ⟨_, rfl⟩, _, _, rfl, rfl, by decide, l2, fun p3 hp3 => ?_⟩
  rw [← hw2, part_split]
  have s3 : Same H2 (upd H2 p3 (.lst ([numS j.2.1, numS j.2.2].map V.str))) := same_new hp3
  have e3 : (upd H2 p3 (.lst ([numS j.2.1, numS j.2.2].map V.str))) p3 = some (.lst [.str (numS j.2.1), .str (numS j.2.2)]) := upd_same
  generalize upd H2 p3 (.lst ([numS j.2.1, numS j.2.2].map V.str)) = H3 at s3 e3
  refine ⟨p3, rfl, ⟨_, SqL.of e3⟩, fun D4 hD4 => lc_list (K := K) (a := p3) (xs := [.str (numS j.2.1), .str (numS j.2.2)]) (fun i H4 => Same H3 H4 ∧ H4 D4 = some (.lst (([(j.2.1 : Int), (j.2.2 : Int)].take i).map V.int))) ⟨same_new hD4, upd_same⟩ (fun _ _ _ z => SqL.of (z.1 _ _ e3)) ?_ ?_⟩
  · rintro i x H4 hx ⟨s4, e4⟩
    match i, hx with
    | 0, hx =>
      obtain rfl : V.str (numS j.2.1) = x := Option.some.inj hx
      exact ⟨rfl, yesIf ⟨_, rfl, j.2.1, 16, rfl, g1, by omega, by decide, _, e4, by show 0 < sizeLine; decide, Same.app hD4 s4, upd_same⟩⟩
    | 1, hx =>
      obtain rfl : V.str (numS j.2.2) = x := Option.some.inj hx
      exact ⟨rfl, yesIf ⟨_, rfl, j.2.2, 16, rfl, by omega, g3, by decide, _, e4, by show 1 < sizeLine; decide, Same.app hD4 s4, upd_same⟩⟩
  rintro H4 ⟨s4, e4⟩
  have e4 : H4 D4 = some (.lst [.int (j.2.1 : Int), .int (j.2.2 : Int)]) := e4
  refine ⟨D4, _, rfl, .inl ⟨SqL.of e4, fun p5 hp5 => ?_⟩⟩
  have s5 : Same H4 (upd H4 p5 (.tup [.int (j.2.1 : Int), .int (j.2.2 : Int)])) := same_new hp5
  have e5 : (upd H4 p5 (.tup [.int (j.2.1 : Int), .int (j.2.2 : Int)])) p5 = some (.tup [.int (j.2.1 : Int), .int (j.2.2 : Int)]) := upd_same
  generalize upd H4 p5 (.tup [.int (j.2.1 : Int), .int (j.2.2 : Int)]) = H5 at s5 e5
  refine ⟨_, rfl, p5, _, _, rfl, e5, hg, true, rfl, iteF ?_⟩
  have e6 := s5 _ _ (s4 _ _ (s3 _ _ e2))
  refine ⟨_, rfl, p, _, 1, _, rfl, rfl, SqL.of e6, atI_nat (j := 1) rfl, _, rfl, by show 2 ≤ sizeLine; decide, fun p6 hp6 => ?_⟩
  exact q p6 p5 _ ((s1.trans (s2.trans (s3.trans (s4.trans s5)))).trans (same_new hp6)) upd_same (same_new hp6 _ _ e5)
end
end Ts
namespace Ts
open PySem PySem.Spec PyProof.Rows L2
section
variable {P : Program} {w : World} {K : PySem.W.Frag} {mg : Str → Option Value} {base : Heap}
theorem not_again {js : List Job} {i : Nat} {j y : Job} (h : (js.map (·.1)).Nodup) (hj : js[i]? = some j) (hy : y ∈ js.take i) (e : y.1 = j.1) : False := by
  have h2 : (js.take (i + 1)).map (·.1) = (js.take i).map (·.1) ++ [j.1] := map_take_succ _ hj
  have h3 : ((js.take (i + 1)).map (·.1)).Nodup := by rw [List.map_take]; exact h.sublist (List.take_sublist _ _)
  rw [h2] at h3
  exact (List.nodup_append.mp h3).2.2 y.1 (List.mem_map_of_mem hy) j.1 (by simp) e
theorem parts_cast (js : List Job) (t : Nat) : (js.map fun j => ((j.2.1 * (t / j.2.2) : Nat) : Int)).sum = ((partsN js t : Nat) : Int) := by
  unfold partsN
  induction js with
  | nil => rfl
  | cons j js ih =>
    rw [List.map_cons, List.map_cons, List.sum_cons, List.sum_cons, ih]
    omega
theorem has_read_works (D : DefAt K mg "_read_works" s__read_works) (B : Blt mg) (h__read_work : Has P w K mg base 4 "_read_work" ["row"] spReadWork) : Has P w K mg base 5 "_read_works" ["rows"] (spReadWorks K) := by
  refine D.has (fun _ _ _ _ _ _ us hl => match us, hl with | [_], _ => rfl) fun f fd F => F.ok sc__read_works (fun vs H Q E h => ?_) (fun cdv A outer s H vs Q E hr h => ?_)
  · obtain ⟨a, js, rfl, _⟩ := h; rfl
  obtain ⟨a, js, rfl, hS, G, hl, q⟩ := h
  have hu := hu_of hr
  refine ⟨_, (pss_cons (ps_set (i := 1) sc__read_works.nd rfl (.inl rfl) pe_dnewK)
      (pss_cons (ps_for PassesOwn.never rfl (pi_list (pv 0)) (pg_name (i := 2) sc__read_works.nd rfl (.inl rfl)) (pss_cons (ps_set (i := 3) sc__read_works.nd rfl (.inl rfl) (pe_h h__read_work (hr.mono (by decide)) (pa_cons (pv 2) pa_nil)))
      (pss_cons (ps_if (PW.pt (pw_or (pt_cmpR op_isN (pv 3) pe_non (nomark _)) (pw_or1 (pt_cmp (pc_din hu (pe_ix ix_tup (pv 3) pe_int (fun _ _ => rfl)) (pv 1)))))) (pss_one (ps_ret pe_non)) pss_nil)
      (pss_one (ps_dput hu (pv 1) (pe_ix ix_tup (pv 3) pe_int (fun _ _ => rfl)) (pe_ix ix_tup (pv 3) pe_int (fun _ _ => rfl)) rfl)))))
      (pss_one (ps_ret (pv 1))))), ?_⟩
  refine fun d hd => ?_
  have s1 : Same H (upd H d (.dK [])) := same_new hd
  have lx : ((js.map rowS).map V.str).length = js.length := by rw [List.length_map, List.length_map]
  refine ⟨_, rfl, a, rfl, ⟨_, s1.seq hS⟩, for_list (K := K) (a := a) (xs := (js.map rowS).map V.str) (fun i σ H2 => Same H H2 ∧ ∃ (kvs : List (Key × V)) (v1 v2 : Option V), H2 d = some (.dK kvs) ∧ KvsOf K (hid d H2) kvs (js.take i) ∧ σ = [some (.ref a), some (.ref d), v1, v2])
    ⟨s1, [], _, _, upd_same, ⟨rfl, .nil⟩, rfl⟩ (fun _ _ _ _ z => z.1.seq hS) ?_ ?_⟩
  · rintro i x σ H2 hx ⟨sm, kvs, v1, v2, e2, ⟨k1, k2⟩, rfl⟩
    obtain ⟨j, hj, rfl⟩ : ∃ j, js[i]? = some j ∧ x = .str (rowS j) := by
      rw [List.map_map, List.getElem?_map] at hx
      cases e : js[i]? with
      | none => rw [e] at hx; cases hx
      | some j => rw [e] at hx; exact ⟨j, rfl, (Option.some.inj hx).symm⟩
    have hjm : j ∈ js := List.mem_of_getElem? hj
    have hil : i < js.length := (List.getElem?_eq_some_iff.mp hj).1
    refine ⟨_, rfl, j, rfl, G.tag j hjm, G.part j hjm, fun p pq H3 s3 ep eq => ?_⟩
    have e3 := s3 _ _ e2
    have npd : p ≠ d := ne_of ep e3 (by intro z; cases z)
    have nqd : pq ≠ d := ne_of eq e3 (by intro z; cases z)
    -- is it none, or there already
    refine ⟨_, rfl, rfl, _, rfl, iteF ?_⟩
    have kl : kvs.length = i := by
      have := congrArg List.length k1
      rw [List.length_map, List.length_map, List.length_take] at this
      omega
    have hnew : valV kvs (Sum.inr j.1 : Key) = none := by
      cases z : valV kvs (Sum.inr j.1 : Key) with
      | none => rfl
      | some v =>
        have hm := valV_in z
        rw [k1] at hm
        obtain ⟨y, hy, e⟩ := List.mem_map.mp hm
        exact (not_again G.nd hj hy (Sum.inr.inj e)).elim
    refine ⟨_, rfl, p, _, 0, _, rfl, rfl, SqT.of ep, atI_nat (j := 0) rfl, _, rfl, d, _, rfl, DGet.k (k := Sum.inr j.1) e3, _, rfl, ?_⟩
    rw [hnew]
    refine iteF ?_
    refine ⟨_, rfl, p, _, 1, _, rfl, rfl, SqT.of ep, atI_nat (j := 1) rfl, _, rfl, _, rfl, p, _, 0, _, rfl, rfl, SqT.of ep, atI_nat (j := 0) rfl, d, _, rfl, DPut.k (k := Sum.inr j.1) e3 (small1000 (by omega)), ?_⟩
    have s4 : Same H (upd H3 d (.dK (putK kvs (Sum.inr j.1) (.ref pq)))) := Same.app hd (sm.trans s3)
    refine ⟨s4, _, _, _, upd_same, ?_, rfl⟩
    rw [putK_new _ hnew]
    refine ⟨?_, ?_⟩
    · rw [List.map_append, k1, map_take_succ _ hj]; rfl
    · rw [List.map_append, map_take_succ _ hj]
      refine (k2.mono fun b o z => ?_).snoc ?_
      · obtain ⟨z1, z2⟩ := hid_some z
        rw [hid_ne z1, upd_ne z1]
        exact s3 _ _ z2
      · exact .tup (SqT.of (by rw [hid_ne nqd, upd_ne nqd]; exact eq)) (.cons (.int _) (.cons (.int _) .nil))
  · rintro σ H2 ⟨sm, kvs, v1, v2, e2, kk, rfl⟩
    rw [lx, List.take_length] at kk
    exact ⟨_, rfl, q d kvs H2 sm hd e2 ⟨kk.1, kk.2.mono hid_sub⟩⟩
theorem has_span_of (D : DefAt K mg "_span_of" s__span_of) (B : Blt mg) : Has P w K mg base 1 "_span_of" ["shares"] (spSpanOf K) := by
  refine D.has (fun _ _ _ _ _ _ us hl => match us, hl with | [_], _ => rfl) fun f fd F => F.ok sc__span_of (fun vs H Q E h => ?_) (fun cdv A outer s H vs Q E hr h => ?_)
  · obtain ⟨a, xs, js, rfl, _⟩ := h; rfl
  obtain ⟨a, xs, js, rfl, hS, hA, G, q⟩ := h
  refine ⟨_, (pss_cons (ps_set (i := 1) sc__span_of.nd rfl (.inl rfl) pe_int)
      (pss_cons (ps_for PassesOwn.never rfl (pi_tup (pv 0)) (pg_tup rfl (pgs_cons (pg_name (i := 2) sc__span_of.nd rfl (.inl rfl)) (pgs_cons (pg_name (i := 3) sc__span_of.nd rfl (.inl rfl)) pgs_nil))) (pss_one (ps_set (i := 1) sc__span_of.nd rfl (.inl rfl) (pe_callBfun cr_lcm (by rfl) B.g_lcm (pa_cons (pv 1) (pa_cons (pv 3) pa_nil))))))
      (pss_one (ps_ret (pv 1))))), ?_⟩
  have lx : xs.length = js.length := by rw [hA.length]; exact List.length_map _
  refine ⟨_, rfl, a, rfl, ⟨_, hS⟩, for_tup (K := K) (a := a) (xs := xs) (fun i σ H2 => H2 = H ∧ ∃ (v1 v2 : Option V), σ = [some (.ref a), some (.int (spanN (js.take i))), v1, v2]) ⟨rfl, _, _, rfl⟩ (fun _ _ _ _ z => z.1 ▸ hS) ?_ ?_⟩
  · rintro i x σ H2 hx ⟨rfl, v1, v2, rfl⟩
    obtain ⟨d, hd, hv⟩ := hA.get hx
    unfold sharesD at hd
    rw [List.getElem?_map] at hd
    cases ej : js[i]? with
    | none => rw [ej] at hd; cases hd
    | some j =>
      rw [ej] at hd
      have ed : partD j.2.1 j.2.2 = d := Option.some.inj hd
      subst ed
      obtain ⟨b, ys, rfl, hb, hy⟩ := hv.tuple
      obtain ⟨y1, y2, rfl, h1, h2⟩ := hy.two
      have hjm : j ∈ js := List.mem_of_getElem? ej
      obtain ⟨g1, g2, g3, _⟩ := G.part j hjm
      have gt : Good 16 (js.take i) := ⟨by rw [List.map_take]; exact G.nd.sublist (List.take_sublist _ _), fun k hk => G.tag k (List.mem_of_mem_take hk), fun k hk => G.part k (List.mem_of_mem_take hk)⟩
      have sl := span_le gt
      have en : spanN (js.take (i + 1)) = Nat.lcm (spanN (js.take i)) j.2.2 := by
        unfold spanN
        rw [List.take_add_one, ej, List.foldl_append]; rfl
      refine ⟨b, _, rfl, hb, rfl, _, _, rfl, _, _, rfl, rfl, _, rfl, _, rfl, spanN (js.take i), j.2.2, ?_, by omega, by omega, rfl, some y1, some y2, ?_⟩
      · rw [h2.int_eq]
      · rw [en]; rfl
  · rintro σ H2 ⟨rfl, v1, v2, rfl⟩
    rw [lx, List.take_length]
    exact ⟨_, rfl, q _ (Same.refl _)⟩
theorem has_total_of (D : DefAt K mg "_total_of" s__total_of) (B : Blt mg) : Has P w K mg base 1 "_total_of" ["shares", "span"] (spTotalOf K) := by
  refine D.has (fun _ _ _ _ _ _ us hl => match us, hl with | [_, _], _ => rfl) fun f fd F => F.ok sc__total_of (fun vs H Q E h => ?_) (fun cdv A outer s H vs Q E hr h => ?_)
  · obtain ⟨a, xs, js, rfl, _⟩ := h; rfl
  obtain ⟨a, xs, js, rfl, hS, hA, G, hl, q⟩ := h
  refine ⟨_, (pss_cons (ps_set (i := 4) sc__total_of.nd rfl (.inl rfl) (pe_callB (cr_sum rfl) (by rfl) B.zsum (by decide +kernel) (pa_cons (pe_lc (own := [("top", 2), ("bottom", 3)]) rfl sc__total_of.nd (pi_tup (pv 0)) (blkOk_by (N := ["shares", "span", "top", "bottom", "parts", "common"]) (sc := defScope s__total_of) (own := [("top", 2), ("bottom", 3)]) (by decide +kernel)) (fun _ _ _ _ _ => (pg_tupK (K := K) (n := 2) rfl rfl (pgs_cons (pg_name (i := 2) sc__total_of.nd rfl (.inl rfl) (.inr rfl)) (pgs_cons (pg_name (i := 3) sc__total_of.nd rfl (.inl rfl) (.inr rfl)) pgs_nil)))) (fun _ _ _ _ _ => pts_nil) (fun _ _ _ _ _ => (pe_op op_mul (pv 2) (pe_op op_fdiv (pv 1) (pv 3))))) pa_nil)))
      (pss_cons (ps_set (i := 5) sc__total_of.nd rfl (.inl rfl) (pe_callBfun cr_gcd (by rfl) B.g_gcd (pa_cons (pv 4) (pa_cons (pv 1) pa_nil))))
      (pss_one (ps_ret (pe_tup (pa_cons (pe_op op_fdiv (pv 4) (pv 5)) (pa_cons (pe_op op_fdiv (pv 1) (pv 5)) pa_nil))))))), ?_⟩
  have lx : xs.length = js.length := by rw [hA.length]; exact List.length_map _
  have sp := span_pos G
  have sl := span_le G
  refine ⟨_, rfl, a, rfl, ⟨_, hS⟩, fun D2 hD => lc_tup (K := K) (a := a) (xs := xs) (fun i H2 => Same H H2 ∧ H2 D2 = some (.lst (((js.take i).map fun j => ((j.2.1 * (spanN js / j.2.2) : Nat) : Int)).map V.int))) ⟨same_new hD, upd_same⟩ (fun _ _ _ z => sameT z.1 hS) ?_ ?_⟩
  · rintro i x H2 hx ⟨sm, e2⟩
    obtain ⟨d, hd, hv⟩ := hA.get hx
    unfold sharesD at hd
    rw [List.getElem?_map] at hd
    cases ej : js[i]? with
    | none => rw [ej] at hd; cases hd
    | some j =>
      rw [ej] at hd
      have ed : partD j.2.1 j.2.2 = d := Option.some.inj hd
      subst ed
      obtain ⟨b, ys, rfl, hb, hy⟩ := hv.tuple
      obtain ⟨y1, y2, rfl, h1, h2⟩ := hy.two
      have hjm : j ∈ js := List.mem_of_getElem? ej
      obtain ⟨g1, g2, g3, _⟩ := G.part j hjm
      have y1' := h1.int_eq
      have y2' := h2.int_eq
      subst y1' y2'
      have cd : CDiv (spanN js : Int) (j.2.2 : Int) := ⟨by omega, by omega⟩
      refine ⟨b, _, rfl, sameT sm hb, rfl, _, _, rfl, _, _, rfl, rfl, rfl, yesIf ?_⟩
      refine ⟨_, rfl, _, rfl, _, rfl, _, _, rfl, rfl, cd, _, _, rfl, rfl, .inl ⟨by omega, by omega⟩, _, e2, ?_, Same.app hD sm, ?_⟩
      · rw [List.length_map, List.length_map, List.length_take]
        exact small1000 (by omega)
      · rw [upd_same, map_take_succ _ ej, List.map_append]
        rfl
  · rintro H2 ⟨sm, e2⟩
    rw [lx, List.take_length] at e2
    have es : (js.map fun j => ((j.2.1 * (spanN js / j.2.2) : Nat) : Int)).sum = (partsN js (spanN js) : Int) := by
      exact parts_cast js _
    refine ⟨_, _, rfl, SqL.of e2, ?_⟩
    rw [es]
    have g0 : 0 < Nat.gcd (partsN js (spanN js)) (spanN js) := Nat.gcd_pos_of_pos_right _ sp
    have g1 : Nat.gcd (partsN js (spanN js)) (spanN js) ≤ spanN js := Nat.le_of_dvd sp (Nat.gcd_dvd_right _ _)
    have c1 : CDiv (partsN js (spanN js) : Int) ((Nat.gcd (partsN js (spanN js)) (spanN js) : Nat) : Int) := ⟨by omega, by omega⟩
    have c2 : CDiv (spanN js : Int) ((Nat.gcd (partsN js (spanN js)) (spanN js) : Nat) : Int) := ⟨by omega, by omega⟩
    refine ⟨_, rfl, _, rfl, _, _, rfl, ?_⟩
    refine ⟨_, rfl, _, rfl, _, _, rfl, rfl, c1, _, rfl, _, rfl, _, _, rfl, rfl, c2, by show 2 ≤ sizeLine; decide, fun p hp => ?_⟩
    exact q p _ (sm.trans (same_new hp)) (sm.free hp) upd_same
end
end Ts
namespace Ts
open PySem PySem.Spec PyProof.Rows L2
section
variable {P : Program} {w : World} {K : PySem.W.Frag} {mg : Str → Option Value} {base : Heap}
theorem ok_init {f C : Addr} {fd : FuncData} (F : Fun K "__init__" "Lot.__init__" s_Lot___init__ f fd) (T : LotC K mg C) (B : Blt mg) (C2 : Cst mg) (h__read_hands : Has P w K mg base 2 "_read_hands" ["row"] spReadHands) (h__read_works : Has P w K mg base 5 "_read_works" ["rows"] (spReadWorks K))
    (h__span_of : Has P w K mg base 1 "_span_of" ["shares"] (spSpanOf K)) (h__total_of : Has P w K mg base 1 "_total_of" ["shares", "span"] (spTotalOf K)) : FnOk P w K mg base CX0 6 f fd ["self", "text"] (spInit K C) := by
  refine F.ok sc_Lot___init__ (fun vs H Q E h => ?_) (fun cdv A outer s H vs Q E hr h => ?_)
  · obtain ⟨a, dx, n, js, rfl, _⟩ := h; rfl
  obtain ⟨a, dx, n, js, rfl, ha, n1, n6, G, l0, l6, q⟩ := h
  refine ⟨_, (pss_cons (ps_if (pt_not (pt_val (pe_callB call_isi (by rfl) B.zisinstance (by decide +kernel) (pa_cons (pv 1) (pa_cons (pe_ty "str" B.zstr) pa_nil))))) (pss_one ps_never) pss_nil)
      (pss_cons (ps_asg (pe_split (pv 1) pe_str) (pg_star (i := 2) (j := 3) rfl sc_Lot___init__.nd rfl rfl rfl rfl))
      (pss_cons (ps_set (i := 4) sc_Lot___init__.nd rfl (.inl rfl) (pe_h h__read_hands (hr.mono (by decide)) (pa_cons (pv 2) pa_nil)))
      (pss_cons (ps_set (i := 5) sc_Lot___init__.nd rfl (.inl rfl) (pe_h h__read_works (hr.mono (by decide)) (pa_cons (pv 3) pa_nil)))
      (pss_cons (ps_if (PW.pt (pw_or (pt_cmpR op_isN (pv 4) pe_non (nomark _)) (pw_or (pt_cmpR op_isN (pv 5) pe_non (nomark _)) (pw_or1 (pt_not (pt_chain op_le op_le pe_int (pe_callB call_lenD (by rfl) B.zlen (by decide +kernel) (pa_cons (pv 5) pa_nil)) (pe_gint C2.MOST_WORKS))))))) (pss_one ps_never) pss_nil)
      (pss_cons (ps_fld (pv 0) (pv 1) rfl)
      (pss_cons (ps_fld (pv 0) (pv 4) rfl)
      (pss_cons (ps_fld (pv 0) (pe_callTy (call_tuple_dK rfl) (by rfl) B.ztuple (by decide +kernel) (pa_cons (pv 5) pa_nil)) rfl)
      (pss_cons (ps_fld (pv 0) (pe_tupVals rfl (by rfl) B.ztuple (pv 5)) rfl)
      (pss_cons (ps_fld (pv 0) (pe_h h__span_of (hr.mono (by decide)) (pa_cons (pe_fld (pv 0) rfl) pa_nil)) rfl)
      (pss_one (ps_fld (pv 0) (pe_h h__total_of (hr.mono (by decide)) (pa_cons (pe_fld (pv 0) rfl) (pa_cons (pe_fld (pv 0) rfl) pa_nil))) rfl)))))))))))), ?_⟩
  have G2 := G.mono (show 16 ≤ 1000 by decide)
  refine ⟨_, rfl, _, _, _, _, _, rfl, .ty "str", .base (.str _), kit_ty (r := true) (by decide +kernel), true, rfl, iteF ?_⟩
  -- the rows
  refine ⟨_, rfl, ⟨_, rfl⟩, _, _, rfl, rfl, by decide, Nat.le_of_lt (small1000 (page_len (by omega) G2 (by omega))), fun p hp => ?_⟩
  rw [show Txt.split (pageS n js) (Str.ofString "\n") = rowsOf n js from page_split G.tag]
  have s1 : Same H (upd H p (.lst ((rowsOf n js).map V.str))) := same_new hp
  have e1 : (upd H p (.lst ((rowsOf n js).map V.str))) p = some (.lst (.str (handsS n) :: (js.map rowS).map V.str)) := upd_same
  generalize upd H p (.lst ((rowsOf n js).map V.str)) = H1 at s1 e1
  refine ⟨p, _, _, rfl, SqL.of e1, by rw [List.length_map, List.length_map]; omega, fun p2 hp2 => ?_⟩
  have s2 : Same H1 (upd H1 p2 (.lst ((js.map rowS).map V.str))) := same_new hp2
  have e2 : (upd H1 p2 (.lst ((js.map rowS).map V.str))) p2 = some (.lst ((js.map rowS).map V.str)) := upd_same
  generalize upd H1 p2 (.lst ((js.map rowS).map V.str)) = H2 at s2 e2
  -- hands, works
  refine ⟨_, rfl, n, rfl, n1, n6, fun H3 s3 => ?_⟩
  refine ⟨_, rfl, p2, js, rfl, SqL.of (s3 _ _ e2), G, by omega, fun d kvs H4 s4 hd4 e4 ⟨k1, k2⟩ => ?_⟩
  have kl : kvs.length = js.length := by
    have := congrArg List.length k1
    rw [List.length_map, List.length_map] at this; exact this
  have s04 : Same H H4 := s1.trans (s2.trans (s3.trans s4))
  refine ⟨_, rfl, rfl, _, rfl, iteF ⟨_, rfl, rfl, _, rfl, iteF ?_⟩⟩
  refine ⟨_, rfl, d, kvs, rfl, e4, _, _, rfl, rfl, _, rfl, ?_⟩
  have c1 : decide ((1 : Int) ≤ (kvs.length : Int)) = true := decide_eq_true (by omega)
  have c2 : decide ((kvs.length : Int) ≤ 6) = true := decide_eq_true (by omega)
  rw [c1]
  refine iteT ⟨_, _, rfl, rfl, _, rfl, ?_⟩
  rw [c2]
  refine iteF ?_
  -- the fields
  have few : ∀ fs : List (Str × V), fs.length ≤ 6 → fs.length < 1000 := fun _ h => by omega
  have f0 : (([] : List (Str × V))).length ≤ 0 := Nat.le_refl _
  have f1 := putF_len "_text" (.str (pageS n js)) []
  have nda : d ≠ a := fun e => by rw [e] at hd4; exact absurd (s1.trans (s2.trans s3) _ _ ha) (by rw [hd4]; exact fun z => nomatch z)
  refine ⟨_, rfl, _, rfl, a, C, dx, _, rfl, s04 _ _ ha, T.cl, T.n1, by show 0 < 1000; decide, ?_⟩
  have b5 : But a H4 (upd H4 a (.ins C dx (putF "_text" (.str (pageS n js)) []))) := But.set
  have e5 : (upd H4 a (.ins C dx (putF "_text" (.str (pageS n js)) []))) a = some (.ins C dx (putF "_text" (.str (pageS n js)) [])) := upd_same
  generalize upd H4 a (.ins C dx (putF "_text" (.str (pageS n js)) [])) = H5 at b5 e5
  refine ⟨_, rfl, _, rfl, a, C, dx, _, rfl, e5, T.cl, T.n2, few _ (by omega), ?_⟩
  have f2 := putF_len "_hands" (.int n) (putF "_text" (.str (pageS n js)) [])
  have b6 : But a H5 (upd H5 a (.ins C dx (putF "_hands" (.int n) (putF "_text" (.str (pageS n js)) [])))) := But.set
  have e6 : (upd H5 a (.ins C dx (putF "_hands" (.int n) (putF "_text" (.str (pageS n js)) [])))) a = some (.ins C dx (putF "_hands" (.int n) (putF "_text" (.str (pageS n js)) []))) := upd_same
  generalize upd H5 a (.ins C dx (putF "_hands" (.int n) (putF "_text" (.str (pageS n js)) []))) = H6 at b6 e6
  generalize hF2 : putF "_hands" (.int n) (putF "_text" (.str (pageS n js)) []) = F2 at f2 e6
  have b46 := b5.trans b6
  -- tuple(works)
  have ed6 := b46 _ _ nda e4
  refine ⟨_, rfl, d, kvs, rfl, ed6, fun pn ob hpn ob1 ob2 => ?_⟩
  have nmap : (kvs.map fun kv => kV kv.1) = js.map (fun j => V.str j.1) := by
    have := congrArg (List.map kV) k1
    rw [List.map_map, List.map_map] at this
    exact this
  rw [nmap]
  have s7 : Same H6 (upd H6 pn (.frz ob (.tup (js.map fun j => V.str j.1)))) := same_new hpn
  have en7 : (upd H6 pn (.frz ob (.tup (js.map fun j => V.str j.1)))) pn = some (.frz ob (.tup (js.map fun j => V.str j.1))) := upd_same
  generalize upd H6 pn (.frz ob (.tup (js.map fun j => V.str j.1))) = H7 at s7 en7
  refine ⟨_, rfl, a, C, dx, _, rfl, s7 _ _ e6, T.cl, T.n3, few _ (by omega), ?_⟩
  have f3 := putF_len "_names" (.ref pn) F2
  have b8 : But a H7 (upd H7 a (.ins C dx (putF "_names" (.ref pn) F2))) := But.set
  have e8 : (upd H7 a (.ins C dx (putF "_names" (.ref pn) F2))) a = some (.ins C dx (putF "_names" (.ref pn) F2)) := upd_same
  have npn : pn ≠ a := ne_of en7 (s7 _ _ e6) (by intro z; cases z)
  generalize upd H7 a (.ins C dx (putF "_names" (.ref pn) F2)) = H8 at b8 e8
  generalize hF3 : putF "_names" (.ref pn) F2 = F3 at f3 e8
  have b48 := (b46.trans (But.of_same s7)).trans b8
  have en8 := b8 _ _ npn en7
  -- tuple(works.values())
  refine ⟨_, rfl, d, kvs, rfl, b48 _ _ nda e4, fun ps hps => ?_⟩
  have s9 : Same H8 (upd H8 ps (.tup (kvs.map (·.2)))) := same_new hps
  have es9 : (upd H8 ps (.tup (kvs.map (·.2)))) ps = some (.tup (kvs.map (·.2))) := upd_same
  generalize upd H8 ps (.tup (kvs.map (·.2))) = H9 at s9 es9
  refine ⟨_, rfl, a, C, dx, _, rfl, s9 _ _ e8, T.cl, T.n4, few _ (by omega), ?_⟩
  have f4 := putF_len "_shares" (.ref ps) F3
  have b10 : But a H9 (upd H9 a (.ins C dx (putF "_shares" (.ref ps) F3))) := But.set
  have e10 : (upd H9 a (.ins C dx (putF "_shares" (.ref ps) F3))) a = some (.ins C dx (putF "_shares" (.ref ps) F3)) := upd_same
  have nps : ps ≠ a := ne_of es9 (s9 _ _ e8) (by intro z; cases z)
  generalize upd H9 a (.ins C dx (putF "_shares" (.ref ps) F3)) = H10 at b10 e10
  have l4 : (putF "_shares" (.ref ps) F3).lookup ("_shares" : Str) = some (.ref ps) := by rw [lookup_putF, if_pos rfl]
  generalize hF4 : putF "_shares" (.ref ps) F3 = F4 at f4 e10 l4
  have b410 := (b48.trans (But.of_same s9)).trans b10
  have en10 := b10 _ _ npn (s9 _ _ en8)
  have es10 := b10 _ _ nps es9
  have hk4 : DpAll K (hid a H4) (kvs.map (·.2)) (sharesD js) := DpAll.hide (s04 _ _ ha) NoSeq.ins k2
  -- the round
  refine ⟨_, rfl, a, C, dx, _, _, rfl, e10, T.cl, T.n4, l4, ps, _, js, rfl, SqT.of es10, (hk4.mono b410.hid).mono hid_sub, G, fun H11 s11 => ?_⟩
  refine ⟨_, rfl, a, C, dx, _, rfl, s11 _ _ e10, T.cl, T.n5, few _ (by omega), ?_⟩
  have f5 := putF_len "_span" (.int (spanN js)) F4
  have b12 : But a H11 (upd H11 a (.ins C dx (putF "_span" (.int (spanN js)) F4))) := But.set
  have e12 : (upd H11 a (.ins C dx (putF "_span" (.int (spanN js)) F4))) a = some (.ins C dx (putF "_span" (.int (spanN js)) F4)) := upd_same
  generalize upd H11 a (.ins C dx (putF "_span" (.int (spanN js)) F4)) = H12 at b12 e12
  have l5 : (putF "_span" (.int (spanN js)) F4).lookup ("_span" : Str) = some (.int (spanN js)) := by rw [lookup_putF, if_pos rfl]
  have l6' : (putF "_span" (.int (spanN js)) F4).lookup ("_shares" : Str) = some (.ref ps) := by rw [lookup_putF, if_neg (by decide +kernel)]; exact l4
  generalize hF5 : putF "_span" (.int (spanN js)) F4 = F5 at f5 e12 l5 l6'
  have b412 := (b410.trans (But.of_same s11)).trans b12
  have en12 := b12 _ _ npn (s11 _ _ en10)
  have es12 := b12 _ _ nps (s11 _ _ es10)
  -- the sum
  refine ⟨_, rfl, a, C, dx, _, _, rfl, e12, T.cl, T.n4, l6', _, rfl, a, C, dx, _, _, rfl, e12, T.cl, T.n5, l5, ps, _, js, rfl, SqT.of es12, (hk4.mono b412.hid).mono hid_sub, G, by omega, fun pt H13 s13 hpt et => ?_⟩
  refine ⟨_, rfl, a, C, dx, _, rfl, s13 _ _ e12, T.cl, T.n6, few _ (by omega), ?_⟩
  have e13 := s13 _ _ e12
  have npt : pt ≠ a := ne_of et e13 (by intro z; cases z)
  have b14 : But a H4 (upd H13 a (.ins C dx (putF "_total" (.ref pt) F5))) := (b412.trans (But.of_same s13)).trans But.set
  refine q _ ((But.of_same s04).trans b14) ⟨dx, pn, ps, pt, ?_, ?_, ?_, ?_⟩
  · rw [upd_same, ← hF5, ← hF4, ← hF3, ← hF2]; rfl
  · have enf : (upd H13 a (.ins C dx (putF "_total" (.ref pt) F5))) pn = some (.frz ob (.tup (js.map fun j => V.str j.1))) := by rw [upd_ne npn]; exact s13 _ _ en12
    exact ⟨ob, enf, ob1, ob2⟩
  · have esf : (upd H13 a (.ins C dx (putF "_total" (.ref pt) F5))) ps = some (.tup (kvs.map (·.2))) := by rw [upd_ne nps]; exact s13 _ _ es12
    exact .tup (SqT.of esf) ((hk4.mono b14.hid).mono hid_sub)
  · have etf : (upd H13 a (.ins C dx (putF "_total" (.ref pt) F5))) pt = some (.tup [.int (totTop js : Int), .int (totBot js : Int)]) := by rw [upd_ne npt]; exact et
    exact .tup (SqT.of etf) (.cons (.int _) (.cons (.int _) .nil))
end
end Ts
namespace Ts
open PySem PySem.Spec PyProof.Rows L2
section
variable {P : Program} {w : World} {K : PySem.W.Frag} {mg : Str → Option Value} {base : Heap}
theorem has_quotient_up (D : DefAt K mg "_quotient_up" s__quotient_up) : Has P w K mg base 1 "_quotient_up" ["top", "bottom"] spQUp := by
  refine D.has (fun _ _ _ _ _ _ us hl => match us, hl with | [_, _], _ => rfl) fun f fd F => F.ok sc__quotient_up (fun vs H Q E h => ?_) (fun cdv A outer s H vs Q E hr h => ?_)
  · obtain ⟨a, b, rfl, _⟩ := h; rfl
  obtain ⟨a, b, rfl, h1, h2, q⟩ := h
  refine ⟨_, (pss_one (ps_ret (pe_op op_fdiv (pe_op op_sub (pe_op op_add (pv 0) (pv 1)) pe_int) (pv 1)))), ?_⟩
  exact ⟨_, rfl, _, rfl, _, _, rfl, rfl, _, _, rfl, rfl, _, rfl, _, _, rfl, rfl, ⟨h1, by omega⟩, q⟩
end
end Ts
namespace Ts
open PySem PySem.Spec PyProof.Rows L2
section
variable {P : Program} {w : World} {K : PySem.W.Frag} {mg : Str → Option Value} {base : Heap}
theorem has_turns_of (D : DefAt K mg "turns_of" s_turns_of) (h__quotient_up : Has P w K mg base 1 "_quotient_up" ["top", "bottom"] spQUp) : Has P w K mg base 2 "turns_of" ["share", "moment"] (spOfT K) := by
  refine D.has (fun _ _ _ _ _ _ us hl => match us, hl with | [_, _], _ => rfl) fun f fd F => F.ok sc_turns_of (fun vs H Q E h => ?_) (fun cdv A outer s H vs Q E hr h => ?_)
  · obtain ⟨v, e, p, t, rfl, _⟩ := h; rfl
  obtain ⟨v, e, p, t, rfl, hv, ⟨g1, g2, g3, g4⟩, q⟩ := h
  obtain ⟨a, rfl, hS⟩ := part_at hv
  refine ⟨_, (pss_cons (ps_asg (pv 0) (pg_tup rfl (pgs_cons (pg_name (i := 2) sc_turns_of.nd rfl (.inl rfl)) (pgs_cons (pg_name (i := 3) sc_turns_of.nd rfl (.inl rfl)) pgs_nil))))
      (pss_one (ps_ret (pe_tup (pa_cons (pe_op op_fdiv (pe_op op_mul (pv 1) (pv 2)) (pv 3)) (pa_cons (pe_h h__quotient_up (hr.mono (by decide)) (pa_cons (pe_op op_mul (pv 1) (pv 2)) (pa_cons (pv 3) pa_nil))) pa_nil)))))), ?_⟩
  refine ⟨_, rfl, a, _, rfl, hS, rfl, _, _, rfl, _, _, rfl, rfl, ?_⟩
  refine ⟨_, rfl, _, rfl, _, _, rfl, rfl, .inr ⟨by omega, by omega⟩, _, rfl, _, _, rfl, rfl, ⟨by omega, by omega⟩, ?_⟩
  refine ⟨_, rfl, _, rfl, _, _, rfl, rfl, .inr ⟨by omega, by omega⟩, _, rfl, _, _, rfl, by omega, by omega, ?_⟩
  exact ⟨by show 2 ≤ sizeLine; decide, fun r hr2 => q r _ hr2 (same_new hr2) upd_same⟩
end
end Ts
namespace Ts
open PySem PySem.Spec PyProof.Rows L2
section
variable {P : Program} {w : World} {K : PySem.W.Frag} {mg : Str → Option Value} {base : Heap}
theorem has_crew_of (D : DefAt K mg "crew_of" s_crew_of) (B : Blt0 mg) : Has P w K mg base 1 "crew_of" ["members"] (spCrewOf K) := by
  refine D.has (fun _ _ _ _ _ _ us hl => match us, hl with | [_], _ => rfl) fun f fd F => F.ok sc_crew_of (fun vs H Q E h => ?_) (fun cdv A outer s H vs Q E hr h => ?_)
  · obtain ⟨a, ms, rfl, _⟩ := h; rfl
  obtain ⟨a, ms, rfl, hS, hl, hm, q⟩ := h
  refine ⟨_, (pss_one (ps_ret (pe_callB (cr_sum rfl) (by rfl) B.zsum (by decide +kernel) (pa_cons (pe_lc (own := [("at", 1)]) rfl sc_crew_of.nd (pi_list (pv 0)) (blkOk_by (N := ["members", "at"]) (sc := defScope s_crew_of) (own := [("at", 1)]) (by decide +kernel)) (fun _ _ _ _ _ => (pg_name (i := 1) sc_crew_of.nd rfl (.inl rfl) (.inr rfl))) (fun _ _ _ _ _ => pts_nil) (fun _ _ _ _ _ => (pe_op op_shl pe_int (pv 1)))) pa_nil)))), ?_⟩
  refine ⟨_, rfl, a, rfl, ⟨_, hS⟩, fun D2 hD => lc_list (K := K) (a := a) (xs := natV ms) (fun i H2 => Same H H2 ∧ H2 D2 = some (.lst (((ms.take i).map fun m => ((2 ^ m : Nat) : Int)).map V.int))) ⟨same_new hD, upd_same⟩ (fun _ _ _ z => z.1.seq hS) ?_ ?_⟩
  · rintro i x H2 hx ⟨sm, e2⟩
    rw [List.getElem?_map] at hx
    cases ej : ms[i]? with
    | none => rw [ej] at hx; cases hx
    | some m =>
    rw [ej] at hx
    cases Option.some.inj hx
    have m1 := hm m (List.mem_of_getElem? ej)
    refine ⟨rfl, yesIf ⟨_, rfl, _, _, rfl, rfl, ⟨by omega, by omega, by decide⟩, _, e2, ?_, Same.app hD sm, ?_⟩⟩
    · rw [List.length_map, List.length_map, List.length_take]
      exact small1000 (by omega)
    · rw [upd_same, map_take_succ _ ej, List.map_append]
      have e9 : (1 : Int) * 2 ^ ((m : Int)).toNat = ((2 ^ m : Nat) : Int) := by rw [show (1 : Int) = ((1 : Nat) : Int) from rfl, shl_nat, Nat.one_mul]
      show some (HO.lst (_ ++ [V.int (1 * 2 ^ ((m : Int)).toNat)])) = _
      rw [e9]; rfl
  · rintro H2 ⟨sm, e2⟩
    rw [List.length_map, List.take_length] at e2
    refine ⟨_, _, rfl, SqL.of e2, ?_⟩
    have e9 : (ms.map fun m => ((2 ^ m : Nat) : Int)).sum = ((crewN ms : Nat) : Int) := by
      have := natV_sum (ms.map fun m => 2 ^ m)
      rw [List.map_map] at this
      exact this
    rw [e9]
    exact q H2 sm
theorem has_members_of (D : DefAt K mg "members_of" s_members_of) (B : Blt0 mg) : Has P w K mg base 1 "members_of" ["crew"] spMembersOf := by
  refine D.has (fun _ _ _ _ _ _ us hl => match us, hl with | [_], _ => rfl) fun f fd F => F.ok sc_members_of (fun vs H Q E h => ?_) (fun cdv A outer s H vs Q E hr h => ?_)
  · obtain ⟨c, rfl, _⟩ := h; rfl
  obtain ⟨c, rfl, hc, q⟩ := h
  refine ⟨_, (pss_one (ps_ret (pe_callTy call_tuple_of (by rfl) B.ztuple (by decide +kernel) (pa_cons (pe_lc (own := [("at", 1)]) rfl sc_members_of.nd (pi_range1 (by rfl) B.zrange (pa_cons (pe_bits (pv 0)) pa_nil)) (blkOk_by (N := ["crew", "at"]) (sc := defScope s_members_of) (own := [("at", 1)]) (by decide +kernel)) (fun _ _ _ _ _ => (pg_name (i := 1) sc_members_of.nd rfl (.inl rfl) (.inr rfl))) (fun _ _ _ _ _ => (pts_one (pt_truI (pe_op op_and (pe_op op_shr (pv 0) (pv 1)) pe_int)))) (fun _ _ _ _ _ => (pv 1))) pa_nil)))), ?_⟩
  have hb : Builtin.Int.intBits (c : Int) ≤ 10 := by
    have go : ∀ c : Fin 1000, Builtin.Int.intBits ((c.val : Nat) : Int) ≤ 10 := by decide +kernel
    exact go ⟨c, hc⟩
  refine ⟨_, rfl, _, rfl, _, rfl, by omega, by omega, fun D2 hD => ?_⟩
  unfold membersN at q
  revert hb q
  generalize Builtin.Int.intBits (c : Int) = n
  intro q hb
  refine lc_range (lo := 0) (n := ((n : Nat) : Int).toNat) (fun i Hm => Same H Hm ∧ Hm D2 = some (.lst (natV ((List.range i).filter fun a => c / 2 ^ a % 2 == 1)))) ⟨same_new hD, upd_same⟩ ?_ ?_
  · rintro i Hm hi ⟨sm, em⟩
    have hin : i < n := by simpa using hi
    have ei : (0 : Int) + (i : Int) = ((i : Nat) : Int) := by omega
    rw [ei]
    refine ⟨rfl, _, rfl, _, rfl, _, _, rfl, rfl, by omega, _, _, rfl, rfl, _, rfl, ?_⟩
    rw [shr_nat, show (1 : Int) = ((1 : Nat) : Int) from rfl, and_nat, Nat.and_one_is_mod]
    have e9 : ((((c / 2 ^ i % 2 : Nat) : Int)) != 0) = (c / 2 ^ i % 2 == 1) := by
      have : c / 2 ^ i % 2 = 0 ∨ c / 2 ^ i % 2 = 1 := by omega
      rcases this with z | z <;> rw [z] <;> rfl
    rw [e9]
    have ef : (List.range (i + 1)).filter (fun a => c / 2 ^ a % 2 == 1) = (List.range i).filter (fun a => c / 2 ^ a % 2 == 1) ++ if (c / 2 ^ i % 2 == 1) = true then [i] else [] := by
      rw [List.range_succ, List.filter_append, List.filter_cons]
      rfl
    refine ite2 (fun t => ?_) (fun t => ?_)
    · refine ⟨_, rfl, _, em, ?_, Same.app hD sm, ?_⟩
      · refine small1000 ?_
        rw [List.length_map]
        refine Nat.le_trans (List.length_filter_le _ _) ?_
        rw [List.length_range]; omega
      · rw [upd_same, ef, if_pos t]; show some (HO.lst (natV _ ++ [V.int ((i : Nat) : Int)])) = _; rw [natV, natV, List.map_append]; rfl
    · refine ⟨sm, ?_⟩
      rw [ef, if_neg t, List.append_nil]; exact em
  · rintro Hm ⟨sm, em⟩
    rw [Int.toNat_natCast] at em
    refine ⟨D2, _, rfl, .inl ⟨SqL.of em, fun p hp => ?_⟩⟩
    exact q p _ (sm.free hp) (sm.trans (same_new hp)) upd_same
theorem has_sizes_of (D : DefAt K mg "sizes_of_crews" s_sizes_of_crews) (B : Blt0 mg) : Has P w K mg base 1 "sizes_of_crews" ["many"] spSizesOf := by
  refine D.has (fun _ _ _ _ _ _ us hl => match us, hl with | [_], _ => rfl) fun f fd F => F.ok sc_sizes_of_crews (fun vs H Q E h => ?_) (fun cdv A outer s H vs Q E hr h => ?_)
  · obtain ⟨n, rfl, _⟩ := h; rfl
  obtain ⟨n, rfl, hn, q⟩ := h
  refine ⟨_, (pss_cons (ps_set (i := 1) sc_sizes_of_crews.nd rfl (.inl rfl) (pe_lst (pa_cons pe_int pa_nil)))
      (pss_cons (ps_for PassesOwn.never rfl (pi_range1 (by rfl) B.zrange (pa_cons (pv 0) pa_nil)) (pg_name (i := 2) sc_sizes_of_crews.nd rfl (.inl rfl)) (pss_one (ps_set (i := 1) sc_sizes_of_crews.nd rfl (.inl rfl) (pe_lst (StX.pa_star (pv 1) (StX.pa_star (pe_lc (own := [("size", 3)]) rfl sc_sizes_of_crews.nd (pi_list (pv 1)) (blkOk_by (N := ["many", "sizes", "_", "size"]) (sc := defScope s_sizes_of_crews) (own := [("size", 3)]) (by decide +kernel)) (fun _ _ _ _ _ => (pg_name (i := 3) sc_sizes_of_crews.nd rfl (.inl rfl) (.inr rfl))) (fun _ _ _ _ _ => pts_nil) (fun _ _ _ _ _ => (pe_op op_add (pv 3) pe_int))) pa_nil))))))
      (pss_one (ps_ret (pv 1))))), ?_⟩
  refine ⟨by show 1 ≤ sizeLine; decide, fun p0 hp0 => ?_⟩
  refine ⟨_, rfl, _, rfl, by omega, by omega, ?_⟩
  refine for_range (lo := 0) (n := (n : Int).toNat) (fun i σ H2 => ∃ (pk : Addr) (v2 : Option V), H pk = none ∧ Same H H2 ∧ H2 pk = some (.lst (natV (sizesN i))) ∧ σ = [some (.int (n : Int)), some (.ref pk), v2, none]) ⟨p0, _, hp0, same_new hp0, upd_same, rfl⟩ ?_ ?_
  · rintro i σ H2 hi ⟨pk, v2, npk, s2, e2, rfl⟩
    have hin : i < n := by simpa using hi
    have ls : (sizesN i).length ≤ 32 := by rw [sizes_len]; exact Nat.le_trans (Nat.pow_le_pow_right (by decide) (show i ≤ 5 by omega)) (by decide)
    refine ⟨_, rfl, pk, natV (sizesN i), rfl, .inr (SqL.of e2), _, rfl, pk, rfl, ⟨_, SqL.of e2⟩, fun D2 hD => lc_list (K := K) (a := pk) (xs := natV (sizesN i)) (fun j H3 => Same H2 H3 ∧ H3 D2 = some (.lst (natV (((sizesN i).take j).map (· + 1))))) ⟨same_new hD, upd_same⟩ (fun _ _ _ z => SqL.of (z.1 _ _ e2)) ?_ ?_⟩
    · rintro j x H3 hx ⟨s3, e3⟩
      rw [List.getElem?_map] at hx
      cases ej : (sizesN i)[j]? with
      | none => rw [ej] at hx; cases hx
      | some m =>
      rw [ej] at hx
      cases Option.some.inj hx
      refine ⟨rfl, yesIf ⟨_, rfl, _, _, rfl, rfl, _, e3, ?_, Same.app hD s3, ?_⟩⟩
      · rw [List.length_map, List.length_map, List.length_take]
        exact small1000 (by omega)
      · rw [upd_same, map_take_succ _ ej, natV, natV, List.map_append]
        rfl
    · rintro H3 ⟨s3, e3⟩
      rw [List.length_map, List.take_length] at e3
      refine ⟨D2, _, rfl, .inr (SqL.of e3), ?_, fun p hp => ?_⟩
      · rw [List.append_nil, List.length_append, List.length_map, List.length_map, List.length_map]
        exact Nat.le_of_lt (small1000 (by omega))
      refine ⟨p, _, s2.free (s3.free hp), s2.trans (s3.trans (same_new hp)), ?_, rfl⟩
      rw [upd_same, List.append_nil, sizesN, natV, natV, natV, List.map_append]
  · rintro σ H2 ⟨pk, v2, npk, s2, e2, rfl⟩
    rw [Int.toNat_natCast] at e2
    exact ⟨_, rfl, q pk H2 npk s2 e2⟩
theorem has_parts_of (D : DefAt K mg "parts_of_crews" s_parts_of_crews) (B : Blt0 mg) : Has P w K mg base 1 "parts_of_crews" ["many"] (spPartsOf K) := by
  refine D.has (fun _ _ _ _ _ _ us hl => match us, hl with | [_], _ => rfl) fun f fd F => F.ok sc_parts_of_crews (fun vs H Q E h => ?_) (fun cdv A outer s H vs Q E hr h => ?_)
  · obtain ⟨n, rfl, _⟩ := h; rfl
  obtain ⟨n, rfl, hn, q⟩ := h
  refine ⟨_, (pss_cons (ps_set (i := 1) sc_parts_of_crews.nd rfl (.inl rfl) (pe_lst (pa_cons (pe_lst (pa_cons pe_int pa_nil)) pa_nil)))
      (pss_cons (ps_for PassesOwn.never rfl (pi_range1 (by rfl) B.zrange (pa_cons (pv 0) pa_nil)) (pg_name (i := 2) sc_parts_of_crews.nd rfl (.inr rfl)) (pss_one (ps_set (i := 1) sc_parts_of_crews.nd rfl (.inl rfl) (pe_lst (StX.pa_star (pv 1) (StX.pa_star (pe_lc (own := [("within", 3)]) rfl sc_parts_of_crews.nd (pi_list (pv 1)) (blkOk_by (N := ["many", "parts", "at", "within", "part"]) (sc := defScope s_parts_of_crews) (own := [("within", 3)]) (by decide +kernel)) (fun _ _ _ _ _ => (pg_name (i := 3) sc_parts_of_crews.nd rfl (.inl rfl) (.inr rfl))) (fun _ _ _ _ _ => pts_nil) (fun _ _ _ _ _ => (pe_lst ((pa_starK (K := K) rfl) (pv 3) ((pa_starK (K := K) rfl) (pe_lc (own := [("part", 4)]) rfl sc_parts_of_crews.nd ((pi_listK (K := K) rfl) (pv 3)) (blkOk_in (N := ["many", "parts", "at", "within", "part"]) (own := [("part", 4)]) rfl (by decide +kernel)) (fun _ _ _ _ _ => (pg_name (i := 4) sc_parts_of_crews.nd rfl (.inl rfl) (.inr rfl))) (fun _ _ _ _ _ => pts_nil) (fun _ _ _ _ _ => (pe_op op_add (pv 4) (pe_op op_shl pe_int (pv 2))))) pa_nil))))) pa_nil))))))
      (pss_one (ps_ret (pv 1))))), ?_⟩
  refine ⟨by show 1 ≤ sizeLine; decide, fun p0 hp0 => ⟨by show 1 ≤ sizeLine; decide, fun p1 hp1 => ?_⟩⟩
  have s1 : Same H (upd (upd H p0 (.lst [.int 0])) p1 (.lst [.ref p0])) := (same_new hp0).trans (same_new hp1)
  have n1 : H p1 = none := (same_new hp0).free hp1
  have D1 : Dp K (upd (upd H p0 (.lst [.int 0])) p1 (.lst [.ref p0])) (.ref p1) (.list (subsD 0)) := .lst (SqL.of upd_same) (.cons (.lst (SqL.of (by rw [upd_ne (ne_of_none upd_same hp1)]; exact upd_same)) (.cons (.int _) .nil)) .nil)
  revert s1 D1
  generalize upd (upd H p0 (.lst [.int 0])) p1 (.lst [.ref p0]) = H1
  intro s1 D1
  refine ⟨_, rfl, _, rfl, by omega, by omega, ?_⟩
  refine for_range (lo := 0) (n := (n : Int).toNat) (fun i σ H2 => ∃ (pk : Addr) (v2 : Option V), H pk = none ∧ Same H H2 ∧ Dp K H2 (.ref pk) (.list (subsD i)) ∧ σ = [some (.int (n : Int)), some (.ref pk), v2, none, none]) ⟨p1, _, n1, s1, D1, rfl⟩ ?_ ?_
  · clear s1 D1
    rintro i σ H2 hi ⟨pk, v2, npk, s2, D2, rfl⟩
    have hin : i < n := by simpa using hi
    have e0 : (0 : Int) + (i : Int) = (i : Int) := by omega
    rw [e0]
    have lsub : (subsN i).length ≤ 32 := by rw [subs_len]; exact Nat.le_trans (Nat.pow_le_pow_right (by decide) (show i ≤ 5 by omega)) (by decide)
    obtain ⟨pk2, rs, e2, hS, hA⟩ := D2.list
    cases e2
    have lr : rs.length = (subsN i).length := by rw [hA.length, List.length_map]
    refine ⟨_, rfl, pk, rs, rfl, .inr hS, _, rfl, pk, rfl, ⟨_, hS⟩, fun DD hD => lc_list (K := K) (a := pk) (xs := rs) (fun j H3 => Same H2 H3 ∧ ∃ us, H3 DD = some (.lst us) ∧ DpAll K (hid DD H3) us (((subsN i).take j).map fun w => PyData.list (natD (w ++ w.map (· + 2 ^ i))))) ⟨same_new hD, [], upd_same, .nil⟩ (fun _ _ _ z => z.1.seq hS) ?_ ?_⟩
    · rintro j x H3 hx ⟨s3, us, e3, h3⟩
      obtain ⟨d, hd, hv⟩ := hA.get hx
      rw [List.getElem?_map] at hd
      cases ej : (subsN i)[j]? with
      | none => rw [ej] at hd; cases hd
      | some wn =>
      rw [ej] at hd
      cases Option.some.inj hd
      obtain ⟨wa, rfl, hw⟩ := Dp.nats hv
      obtain ⟨wl, _⟩ := subs_in i wn (List.mem_of_getElem? ej)
      have wl2 : wn.length ≤ 32 := Nat.le_trans wl (Nat.le_trans (Nat.pow_le_pow_right (by decide) (show i ≤ 5 by omega)) (by decide))
      have lu : us.length < sizeLine := by
        have h := h3.length
        rw [List.length_map, List.length_take] at h
        exact small1000 (by omega)
      refine ⟨rfl, yesIf ⟨_, rfl, wa, _, rfl, .inr (s3.seq hw), _, rfl, wa, rfl, ⟨_, s3.seq hw⟩, fun D4 hD4 => lc_list (K := K) (a := wa) (xs := natV wn) (fun m H4 => Same H3 H4 ∧ H4 D4 = some (.lst (natV ((wn.take m).map (· + 2 ^ i))))) ⟨same_new hD4, upd_same⟩ (fun _ _ _ z => (s3.trans z.1).seq hw) ?_ ?_⟩⟩
      · rintro m y H4 hy ⟨s4, e4⟩
        rw [List.getElem?_map] at hy
        cases em : wn[m]? with
        | none => rw [em] at hy; cases hy
        | some z =>
        rw [em] at hy
        cases Option.some.inj hy
        refine ⟨rfl, yesIf ⟨_, rfl, _, rfl, _, _, rfl, rfl, ⟨by omega, by omega, by decide⟩, _, _, rfl, rfl, _, e4, ?_, Same.app hD4 s4, ?_⟩⟩
        · rw [List.length_map, List.length_map, List.length_take]
          exact small1000 (by omega)
        · have e9 : (1 : Int) * 2 ^ ((i : Int)).toNat = ((2 ^ i : Nat) : Int) := by rw [show (1 : Int) = ((1 : Nat) : Int) from rfl, shl_nat, Nat.one_mul]
          rw [upd_same, map_take_succ _ em, natV, natV, List.map_append]
          show some (HO.lst (_ ++ [V.int ((z : Int) + 1 * 2 ^ ((i : Int)).toNat)])) = _
          rw [e9]; rfl
      · rintro H4 ⟨s4, e4⟩
        rw [List.length_map, List.take_length] at e4
        refine ⟨D4, _, rfl, .inr (SqL.of e4), ?_, fun p hp => ?_⟩
        · rw [List.append_nil, List.length_append, List.length_map, List.length_map, List.length_map]
          exact Nat.le_of_lt (small1000 (by omega))
        have s5 : Same H3 (upd H4 p (.lst (natV wn ++ (natV (wn.map (· + 2 ^ i)) ++ [])))) := s4.trans (same_new hp)
        have e5 : (upd H4 p (.lst (natV wn ++ (natV (wn.map (· + 2 ^ i)) ++ [])))) p = some (.lst (natV (wn ++ wn.map (· + 2 ^ i)))) := by rw [upd_same, List.append_nil, natV, natV, natV, List.map_append]
        have np : p ≠ DD := (ne_of_none e3 (s4.free hp)).symm
        revert s5 e5
        generalize upd H4 p (.lst (natV wn ++ (natV (wn.map (· + 2 ^ i)) ++ []))) = H5
        intro s5 e5
        refine ⟨us, s5 _ _ e3, lu, Same.app hD (s3.trans s5), _, upd_same, ?_⟩
        rw [map_take_succ _ ej]
        exact ((h3.mono (hid_same s5)).mono hid_put).snoc (.lst (SqL.of (by rw [hid_ne np, upd_ne np]; exact e5)) (dp_nats _))
    · rintro H3 ⟨s3, us, e3, h3⟩
      rw [lr, List.take_length] at h3
      have lu := h3.length
      rw [List.length_map] at lu
      refine ⟨DD, _, rfl, .inr (SqL.of e3), ?_, fun p hp => ?_⟩
      · rw [List.append_nil, List.length_append]
        exact Nat.le_of_lt (small1000 (by omega))
      have np : p ≠ DD := (ne_of_none e3 hp).symm
      refine ⟨p, _, s2.free (s3.free hp), s2.trans (s3.trans (same_new hp)), .lst (SqL.of upd_same) ?_, rfl⟩
      rw [List.append_nil, subsD, subsN, List.map_append, List.map_map]
      exact ((hA.mono s3).append (h3.mono hid_sub)).mono (same_new hp)
  · rintro σ H2 ⟨pk, v2, npk, s2, D2, rfl⟩
    rw [Int.toNat_natCast] at D2
    exact ⟨_, rfl, q pk H2 npk s2 D2⟩
end
end Ts
namespace Ts
open PySem PySem.Spec PyProof.Rows L2
section
variable {P : Program} {w : World} {K : PySem.W.Frag} {mg : Str → Option Value} {base : Heap}
theorem has_grown (D : DefAt K mg "_grown_between" s__grown_between) (B : Blt0 mg) (h_crew_of : Has P w K mg base 1 "crew_of" ["members"] (spCrewOf K)) : Has P w K mg base 2 "_grown_between" ["before", "after"] (spGrown K) := by
  refine D.has (fun _ _ _ _ _ _ us hl => match us, hl with | [_, _], _ => rfl) fun f fd F => F.ok sc__grown_between (fun vs H Q E h => ?_) (fun cdv A outer s H vs Q E hr h => ?_)
  · obtain ⟨a, b, xs, ys, rfl, _⟩ := h; rfl
  obtain ⟨a, b, xs, ys, rfl, hX, hY, hl, l6, q⟩ := h
  refine ⟨_, (pss_one (ps_ret (pe_h h_crew_of (hr.mono (by decide)) (pa_cons (pe_lc (own := [("at", 2), ("low", 3)]) rfl sc__grown_between.nd (pi_enum (by rfl) B.zenumerate (pa_cons (pv 0) pa_nil)) (blkOk_by (N := ["before", "after", "at", "low"]) (sc := defScope s__grown_between) (own := [("at", 2), ("low", 3)]) (by decide +kernel)) (fun _ _ _ _ _ => (pg_tupK (K := K) (n := 2) rfl rfl (pgs_cons (pg_name (i := 2) sc__grown_between.nd rfl (.inl rfl) (.inr rfl)) (pgs_cons (pg_name (i := 3) sc__grown_between.nd rfl (.inl rfl) (.inr rfl)) pgs_nil)))) (fun _ _ _ _ _ => (pts_one (pt_cmpR op_gt (pe_ix (ixL (K := K) rfl) (pv 1) (pv 2) (fun _ _ => rfl)) (pv 3) (nomark _)))) (fun _ _ _ _ _ => (pv 2))) pa_nil)))), ?_⟩
  refine ⟨_, rfl, a, _, rfl, hX, fun D2 hD => ?_⟩
  refine lc_it walk_enum (fun i Hm => Same H Hm ∧ Hm D2 = some (.lst (natV (posL (fun q : Int × Int => decide (q.1 < q.2)) ((xs.zip ys).take i) 0)))) ⟨same_new hD, upd_same⟩ (fun i Hm _ z => z.1.seq hX) ?_ ?_
  · rintro i x Hm H' hi ⟨sm, em⟩ ⟨T, y, z, rfl, hT, rfl, ey, ez⟩
    dsimp only at ey ez
    cases ey
    rw [List.getElem?_map] at ez
    obtain ⟨m, hm, rfl⟩ : ∃ m, xs[i]? = some m ∧ V.int m = z := by
      cases e : xs[i]? with
      | none => rw [e] at ez; cases ez
      | some m => rw [e] at ez; exact ⟨m, rfl, Option.some.inj ez⟩
    have ix : i < xs.length := (List.getElem?_eq_some_iff.mp hm).1
    obtain ⟨n, hn⟩ : ∃ n, ys[i]? = some n := ⟨ys[i], List.getElem?_eq_getElem (by omega)⟩
    have sT : Same Hm (upd Hm T (.tup [.int (i : Int), .int m])) := same_new hT
    have eD : (upd Hm T (.tup [V.int (i : Int), .int m])) D2 = some (.lst (natV (posL (fun q : Int × Int => decide (q.1 < q.2)) ((xs.zip ys).take i) 0))) := sT _ _ em
    have sa := sm.trans sT
    have ez2 : (xs.zip ys)[i]? = some (m, n) := by rw [List.getElem?_zip_eq_some]; exact ⟨hm, hn⟩
    have lz : ((xs.zip ys).take i).length = i := by rw [List.length_take, List.length_zip]; omega
    have et : (xs.zip ys).take (i + 1) = (xs.zip ys).take i ++ [(m, n)] := by rw [List.take_add_one, ez2]; rfl
    refine ⟨T, _, rfl, SqT.of upd_same, rfl, _, _, rfl, _, _, rfl, rfl, rfl, ?_⟩
    refine ⟨_, rfl, _, rfl, b, ys.map V.int, (i : Int), .int n, rfl, rfl, sa.seq hY, atI_nat (by rw [List.getElem?_map, hn]; rfl), _, rfl, _, _, rfl, rfl, _, rfl, ?_⟩
    refine ite2 (fun t => ?_) (fun t => ?_)
    · refine ⟨_, rfl, _, eD, ?_, Same.app hD sa, ?_⟩
      · refine small1000 ?_
        rw [List.length_map]
        have : (posL (fun q : Int × Int => decide (q.1 < q.2)) ((xs.zip ys).take i) 0).length ≤ 6 := by
          refine Nat.le_trans (posL_len _ _ _) ?_
          omega
        omega
      · rw [upd_same, et, posL_snoc, lz, if_pos (show decide ((m, n).1 < (m, n).2) = true from t), Nat.zero_add, natV, natV, List.map_append]; rfl
    · refine ⟨sa, ?_⟩
      rw [et, posL_snoc, if_neg (show ¬ decide ((m, n).1 < (m, n).2) = true from t), List.append_nil]; exact eD
  · rintro Hm ⟨sm, em⟩
    have e0 : (xs.zip ys).take (xs.map V.int).length = xs.zip ys := by
      rw [List.length_map]; exact List.take_of_length_le (by rw [List.length_zip]; omega)
    rw [e0] at em
    have lp := posL_len (fun q : Int × Int => decide (q.1 < q.2)) (xs.zip ys) 0
    have lz : (xs.zip ys).length ≤ 6 := by rw [List.length_zip]; omega
    refine ⟨D2, _, rfl, SqL.of em, by omega, fun m hm => ?_, fun H' s' => q H' (sm.trans s')⟩
    have := posL_in _ _ _ m hm
    omega
theorem has_before (D : DefAt K mg "_standings_before" s__standings_before) (B : Blt0 mg) : Has P w K mg base 1 "_standings_before" ["after", "grown", "not_ahead", "most"] (spBefore K) := by
  refine D.has (fun _ _ _ _ _ _ us hl => match us, hl with | [_, _, _, _], _ => rfl) fun f fd F => F.ok sc__standings_before (fun vs H Q E h => ?_) (fun cdv A outer s H vs Q E hr h => ?_)
  · obtain ⟨c, g, m, b, os, rfl, _⟩ := h; rfl
  obtain ⟨c, g, m, b, os, rfl, hS, l6, ho, hm, q⟩ := h
  refine ⟨_, (pss_cons (ps_set (i := 4) sc__standings_before.nd rfl (.inl rfl) (pe_lst (pa_cons (pv 0) pa_nil)))
      (pss_cons (ps_for PassesOwn.never rfl (pi_enum (by rfl) B.zenumerate (pa_cons (pv 2) pa_nil)) (pg_tup rfl (pgs_cons (pg_name (i := 5) sc__standings_before.nd rfl (.inl rfl)) (pgs_cons (pg_name (i := 6) sc__standings_before.nd rfl (.inr rfl)) pgs_nil))) (pss_cons (ps_set (i := 7) sc__standings_before.nd rfl (.inr rfl) (pe_op op_shl pe_int (pv 5)))
      (pss_cons (ps_set (i := 8) sc__standings_before.nd rfl (.inl rfl) (pe_listZip rfl (by rfl) B.zlist (by rfl) B.zzip (pa_cons (pe_lst (StX.pa_star (pv 4) (pa_cons pe_int pa_nil))) (pa_cons (pe_lst (pa_cons pe_int (StX.pa_star (pv 4) pa_nil))) pa_nil))))
      (pss_one (ps_if (pt_truI (pe_op op_and (pe_op op_shr (pv 1) (pv 5)) pe_int)) (pss_one (ps_setLc (i := 4) (own := [("idle", 9), ("given", 10)]) rfl sc__standings_before.nd rfl rfl (sw_true rfl rfl rfl (by decide +kernel)) (pi_list (pv 8)) (blkOk_by (N := ["after", "grown", "not_ahead", "most", "found", "at", "others", "step", "pairs", "idle", "given", "told", "standings"]) (sc := defScope s__standings_before) (own := [("idle", 9), ("given", 10)]) (by decide +kernel)) (fun _ _ _ _ _ => (pg_tupK (K := K) (n := 2) rfl rfl (pgs_cons (pg_name (i := 9) sc__standings_before.nd rfl (.inl rfl) (.inr rfl)) (pgs_cons (pg_name (i := 10) sc__standings_before.nd rfl (.inl rfl) (.inr rfl)) pgs_nil)))) (fun _ _ _ _ _ => pts_nil) (fun _ _ _ _ _ => (pe_op op_or (pv 10) (pe_op op_shl (pe_op op_and (pv 9) (pv 6)) (pv 7)))))) (pss_one (ps_setLc (i := 4) (own := [("idle", 9), ("given", 10)]) rfl sc__standings_before.nd rfl rfl (sw_true rfl rfl rfl (by decide +kernel)) (pi_list (pv 8)) (blkOk_by (N := ["after", "grown", "not_ahead", "most", "found", "at", "others", "step", "pairs", "idle", "given", "told", "standings"]) (sc := defScope s__standings_before) (own := [("idle", 9), ("given", 10)]) (by decide +kernel)) (fun _ _ _ _ _ => (pg_tupK (K := K) (n := 2) rfl rfl (pgs_cons (pg_name (i := 9) sc__standings_before.nd rfl (.inl rfl) (.inr rfl)) (pgs_cons (pg_name (i := 10) sc__standings_before.nd rfl (.inl rfl) (.inr rfl)) pgs_nil)))) (fun _ _ _ _ _ => pts_nil) (fun _ _ _ _ _ => (pe_op op_or (pv 9) (pe_op op_and (pe_op op_shr (pv 10) (pv 7)) (pv 6)))))))))))
      (pss_cons (ps_set (i := 11) sc__standings_before.nd rfl (.inl rfl) pe_int)
      (pss_cons (ps_for PassesOwn.never rfl (pi_list (pe_slice sl_list (pv 4) po_none (po_some (pe_op op_add (pv 3) pe_int)))) (pg_name (i := 12) sc__standings_before.nd rfl (.inl rfl)) (pss_one (ps_aug (i := 11) sc__standings_before.nd rfl (.inl rfl) (pv 12) ip_bor)))
      (pss_one (ps_ret (pv 11))))))), ?_⟩
  refine ⟨_, rfl, by show 1 ≤ sizeLine; decide, fun p0 hp0 => ?_⟩
  have s0 : Same H (upd H p0 (.lst [.int (c : Int)])) := same_new hp0
  refine ⟨_, rfl, b, _, rfl, s0.seq hS, ?_⟩
  refine for_it walk_enum (fun i σ Hn => Same H Hn ∧ ∃ (pf : Addr) (fs : List Nat) (v5 v6 v7 v8 : Option V), Hn pf = some (.lst (natV fs)) ∧ fs.length = i + 1 ∧ foundN g (os.drop i) i fs = foundN g os 0 [c] ∧ σ = [some (.int (c : Int)), some (.int (g : Int)), some (.ref b), some (.int (m : Int)), some (.ref pf), v5, v6, v7, v8, none, none, none, none])
    ⟨s0, p0, [c], _, _, _, _, upd_same, rfl, rfl, rfl⟩ (fun i σ Hn _ z => z.1.seq hS) ?_ ?_
  · clear s0 hp0
    rintro i x σ H2 H3 hi ⟨s2, pf, fs, v5, v6, v7, v8, e2, lf, hf, rfl⟩ ⟨T, y, z, rfl, hT, rfl, ey, ez⟩
    dsimp only at ey ez
    cases ey
    rw [List.getElem?_map] at ez
    obtain ⟨o, hoi, rfl⟩ : ∃ o, os[i]? = some o ∧ V.int ((o : Nat) : Int) = z := by
      cases e : os[i]? with
      | none => rw [e] at ez; cases ez
      | some m => rw [e] at ez; exact ⟨m, rfl, Option.some.inj ez⟩
    have ol := ho o (List.mem_of_getElem? hoi)
    have il : i < os.length := (List.getElem?_eq_some_iff.mp hoi).1
    have ed : os.drop i = o :: os.drop (i + 1) := by
      rw [List.drop_eq_getElem_cons il]
      rw [List.getElem?_eq_getElem il] at hoi
      rw [Option.some.inj hoi]
    rw [ed] at hf
    have sT : Same H (upd H2 T (.tup [.int ((i : Nat) : Int), .int (o : Int)])) := s2.trans (same_new hT)
    have eT : (upd H2 T (.tup [V.int ((i : Nat) : Int), .int (o : Int)])) pf = some (.lst (natV fs)) := same_new hT _ _ e2
    have tT : (upd H2 T (.tup [V.int ((i : Nat) : Int), .int (o : Int)])) T = some (.tup [.int ((i : Nat) : Int), .int (o : Int)]) := upd_same
    revert sT eT tT
    generalize upd H2 T (.tup [V.int ((i : Nat) : Int), .int (o : Int)]) = H4
    intro s4 e4 t4
    refine ⟨T, _, rfl, SqT.of t4, rfl, _, _, rfl, _, _, rfl, rfl, ?_⟩
    refine ⟨_, rfl, _, _, rfl, rfl, ⟨by omega, by omega, by decide⟩, ?_⟩
    show gName 7 (V.int (1 * 2 ^ ((i : Int)).toNat)) _ _ _
    rw [one_shl]
    refine ⟨_, rfl, pf, _, rfl, .inr (SqL.of e4), by rw [List.length_append, List.length_map]; exact Nat.le_of_lt (small1000 (show fs.length + 1 ≤ 1000 by omega)), fun l1 hl1 => ?_⟩
    have s5 : Same H4 (upd H4 l1 (.lst (natV fs ++ [V.int 0]))) := same_new hl1
    refine ⟨_, rfl, pf, _, rfl, .inr (SqL.of (s5 _ _ e4)), by rw [List.length_cons, List.length_append, List.length_map]; exact Nat.le_of_lt (small1000 (show fs.length + 0 + 1 ≤ 1000 by omega)), fun l2 hl2 => ?_⟩
    have s6 : Same (upd H4 l1 (.lst (natV fs ++ [V.int 0]))) (upd (upd H4 l1 (.lst (natV fs ++ [V.int 0]))) l2 (.lst (V.int 0 :: (natV fs ++ [])))) := same_new hl2
    have q1 : (upd (upd H4 l1 (.lst (natV fs ++ [V.int 0]))) l2 (.lst (V.int 0 :: (natV fs ++ [])))) l1 = some (.lst (natV (fs ++ [0]))) := by
      refine s6 _ _ ?_
      rw [upd_same, natV, natV, List.map_append]; rfl
    have q2 : (upd (upd H4 l1 (.lst (natV fs ++ [V.int 0]))) l2 (.lst (V.int 0 :: (natV fs ++ [])))) l2 = some (.lst (natV (0 :: fs))) := by rw [upd_same, List.append_nil]; rfl
    have s7 := s4.trans (s5.trans s6)
    revert q1 q2 s7
    generalize upd (upd H4 l1 (.lst (natV fs ++ [V.int 0]))) l2 (.lst (V.int 0 :: (natV fs ++ []))) = H5
    intro q1 q2 s7
    have pz : (0 : Int) ≤ ((2 ^ i : Nat) : Int) := Int.natCast_nonneg _
    refine ⟨l1, l2, _, _, rfl, SqL.of q1, SqL.of q2, fun pp ts H6 hpp s8 e8 lts hts => ?_⟩
    have lp : ts.length = (pairN fs).length := by
      rw [lts]; unfold pairN; rw [List.length_zip, List.length_map, List.length_map]
    have lp2 : (pairN fs).length = fs.length + 1 := by unfold pairN; rw [List.length_zip, List.length_append, List.length_cons]; simp
    have at_ : ∀ (j : Nat) (t : Addr), ts[j]? = some t → ∃ a d : Nat, (pairN fs)[j]? = some (a, d) ∧ H6 t = some (.tup [.int (a : Int), .int (d : Int)]) := fun j t hj => by
      have jl := (List.getElem?_eq_some_iff.mp hj).1
      have j1 : j < (fs ++ [0]).length := by rw [List.length_append]; show j < fs.length + 1; omega
      have j2 : j < (0 :: fs).length := by rw [List.length_cons]; omega
      refine ⟨(fs ++ [0])[j], (0 :: fs)[j], ?_, hts j t _ _ hj ?_ ?_⟩
      · unfold pairN
        rw [List.getElem?_zip_eq_some]
        exact ⟨List.getElem?_eq_getElem j1, List.getElem?_eq_getElem j2⟩
      · rw [List.getElem?_map, List.getElem?_eq_getElem j1]; rfl
      · rw [List.getElem?_map, List.getElem?_eq_getElem j2]; rfl
    clear hts q1 q2
    have s9 := s7.trans s8
    dsimp only [List.set]
    have fin : ∀ (D2 : Addr) (H8 : Hp), Same H H8 → H8 D2 = some (.lst (natV ((pairN fs).map fun q => stepN g i o q.2 q.1))) → ∃ (pf : Addr) (fs2 : List Nat), H8 pf = some (.lst (natV fs2)) ∧ fs2.length = i + 1 + 1 ∧ foundN g (os.drop (i + 1)) (i + 1) fs2 = foundN g os 0 [c] ∧ pf = D2 := fun D2 H8 s e => ⟨D2, _, e, by rw [List.length_map, lp2, lf], by rw [← hf]; rfl, rfl⟩
    refine ⟨_, rfl, _, rfl, _, _, rfl, rfl, by omega, _, _, rfl, rfl, _, rfl, ?_⟩
    rw [shr_nat, odd_test]
    refine ite2 (fun tt => ?_) (fun tt => ?_)
    · have tt2 := of_decide_eq_true tt
      refine ⟨_, rfl, pp, rfl, ⟨_, SqL.of e8⟩, fun D2 hD => lc_list (K := K) (a := pp) (xs := ts.map V.ref) (fun j H7 => Same H6 H7 ∧ H7 D2 = some (.lst (natV (((pairN fs).take j).map fun q => stepN g i o q.2 q.1)))) ⟨same_new hD, upd_same⟩ (fun _ _ _ z => SqL.of (z.1 _ _ e8)) ?_ ?_⟩
      · rintro j x H7 hx ⟨sj, ej⟩
        rw [List.getElem?_map] at hx
        cases et : ts[j]? with
        | none => rw [et] at hx; cases hx
        | some t =>
        rw [et] at hx
        cases Option.some.inj hx
        obtain ⟨a, d, hp, ht⟩ := at_ j t et
        refine ⟨t, _, rfl, SqT.of (sj _ _ ht), rfl, _, _, rfl, _, _, rfl, rfl, rfl, yesIf ?_⟩
        refine ⟨_, rfl, _, rfl, _, rfl, _, _, rfl, rfl, _, rfl, _, _, rfl, rfl, ⟨pz, ?_, ?_⟩, _, _, rfl, rfl, _, ej, ?_, Same.app hD sj, ?_⟩
        · have : 2 ^ i ≤ 2 ^ 6 := Nat.pow_le_pow_right (by decide) (by omega)
          omega
        · rw [and_nat]
          have : a &&& o ≤ o := Nat.and_le_right
          show (a &&& o : Nat) < 2 ^ 64
          omega
        · rw [List.length_map, List.length_map, List.length_take]
          exact small1000 (by omega)
        · rw [upd_same, map_take_succ _ hp, natV, natV, List.map_append]
          show some (HO.lst (_ ++ [V.int (Builtin.bitOr (d : Int) (Builtin.bitAnd (a : Int) (o : Int) * 2 ^ (((2 ^ i : Nat) : Int)).toNat))])) = _
          rw [and_nat, shl_nat, or_nat]
          have e9 : stepN g i o d a = d ||| (a &&& o) * 2 ^ 2 ^ i := by unfold stepN; rw [if_pos tt2]
          show _ = some (HO.lst (_ ++ [V.int ((stepN g i o d a : Nat) : Int)]))
          rw [e9]
      · rintro H7 ⟨sj, ej⟩
        rw [List.length_map, lp, List.take_length] at ej
        obtain ⟨pf2, fs2, f1, f2, f3, rfl⟩ := fin D2 H7 (s9.trans sj) ej
        exact ⟨s9.trans sj, pf2, fs2, _, _, _, _, f1, f2, f3, rfl⟩
    · have tt2 : ¬ g / 2 ^ i % 2 = 1 := fun z => tt (decide_eq_true z)
      refine ⟨_, rfl, pp, rfl, ⟨_, SqL.of e8⟩, fun D2 hD => lc_list (K := K) (a := pp) (xs := ts.map V.ref) (fun j H7 => Same H6 H7 ∧ H7 D2 = some (.lst (natV (((pairN fs).take j).map fun q => stepN g i o q.2 q.1)))) ⟨same_new hD, upd_same⟩ (fun _ _ _ z => SqL.of (z.1 _ _ e8)) ?_ ?_⟩
      · rintro j x H7 hx ⟨sj, ej⟩
        rw [List.getElem?_map] at hx
        cases et : ts[j]? with
        | none => rw [et] at hx; cases hx
        | some t =>
        rw [et] at hx
        cases Option.some.inj hx
        obtain ⟨a, d, hp, ht⟩ := at_ j t et
        refine ⟨t, _, rfl, SqT.of (sj _ _ ht), rfl, _, _, rfl, _, _, rfl, rfl, rfl, yesIf ?_⟩
        refine ⟨_, rfl, _, rfl, _, rfl, _, _, rfl, rfl, pz, _, rfl, _, _, rfl, rfl, _, _, rfl, rfl, _, ej, ?_, Same.app hD sj, ?_⟩
        · rw [List.length_map, List.length_map, List.length_take]
          exact small1000 (by omega)
        · rw [upd_same, map_take_succ _ hp, natV, natV, List.map_append]
          show some (HO.lst (_ ++ [V.int (Builtin.bitOr (a : Int) (Builtin.bitAnd ((d : Int) / 2 ^ (((2 ^ i : Nat) : Int)).toNat) (o : Int)))])) = _
          rw [shr_nat, and_nat, or_nat]
          have e9 : stepN g i o d a = a ||| (d / 2 ^ 2 ^ i) &&& o := by unfold stepN; rw [if_neg tt2]
          show _ = some (HO.lst (_ ++ [V.int ((stepN g i o d a : Nat) : Int)]))
          rw [e9]
      · rintro H7 ⟨sj, ej⟩
        rw [List.length_map, lp, List.take_length] at ej
        obtain ⟨pf2, fs2, f1, f2, f3, rfl⟩ := fin D2 H7 (s9.trans sj) ej
        exact ⟨s9.trans sj, pf2, fs2, _, _, _, _, f1, f2, f3, rfl⟩
  · rintro σ H2 ⟨s2, pf, fs, v5, v6, v7, v8, e2, lf, hf, rfl⟩
    have e0 : os.drop (natV os).length = [] := by rw [List.length_map, List.drop_length]
    rw [e0] at hf
    have hf2 : fs = foundN g os 0 [c] := hf
    refine ⟨_, rfl, _, rfl, _, _, rfl, rfl, _, rfl, pf, _, rfl, SqL.of e2, fun ps hps => ?_⟩
    have s3 : Same H2 (upd H2 ps (.lst (cutV (natV fs) none (some ((m : Int) + 1))))) := same_new hps
    have e3 : (upd H2 ps (.lst (cutV (natV fs) none (some ((m : Int) + 1))))) ps = some (.lst (natV (fs.take (m + 1)))) := by rw [upd_same, cut_toN, natV, natV, List.map_take]
    revert s3 e3
    generalize upd H2 ps (.lst (cutV (natV fs) none (some ((m : Int) + 1)))) = H3
    intro s3 e3
    refine ⟨ps, rfl, ⟨_, SqL.of e3⟩, for_list (K := K) (a := ps) (xs := natV (fs.take (m + 1))) (fun i σ Hn => Same H3 Hn ∧ ∃ v12, σ = [some (.int (c : Int)), some (.int (g : Int)), some (.ref b), some (.int (m : Int)), some (.ref pf), v5, v6, v7, v8, none, none, some (.int (((((fs.take (m + 1)).take i).foldl (· ||| ·) 0 : Nat) : Int))), v12]) ⟨Same.refl _, _, rfl⟩ (fun _ _ _ _ z => SqL.of (z.1 _ _ e3)) ?_ ?_⟩
    · rintro i x σ H4 hx ⟨s4, v12, rfl⟩
      rw [List.getElem?_map] at hx
      cases ei : (fs.take (m + 1))[i]? with
      | none => rw [ei] at hx; cases hx
      | some y =>
      rw [ei] at hx
      cases Option.some.inj hx
      refine ⟨_, rfl, _, rfl, _, _, rfl, rfl, s4, some (.int (y : Int)), ?_⟩
      dsimp only [List.set]
      have et : ∀ gs : List Nat, gs[i]? = some y → gs.take (i + 1) = gs.take i ++ [y] := fun gs h => by rw [List.take_add_one, h]; rfl
      rw [or_nat, et _ ei, List.foldl_append]
      rfl
    · rintro σ H4 ⟨s4, v12, rfl⟩
      rw [List.length_map, List.take_length] at *
      refine ⟨_, rfl, ?_⟩
      rw [hf2]
      exact q H4 (s2.trans (s3.trans s4))
end
end Ts
namespace Ts
open PySem PySem.Spec PyProof.Rows L2
section
variable {P : Program} {w : World} {K : PySem.W.Frag} {mg : Str → Option Value} {base : Heap}
theorem has_living {C : Addr} (D : DefAt K mg "_living_of" s__living_of) (B : Blt0 mg) (W : WalkC K mg C) (h__standings_before : Has P w K mg base 1 "_standings_before" ["after", "grown", "not_ahead", "most"] (spBefore K)) : Has P w K mg base 2 "_living_of" ["walk", "many"] (spLivingOf K C) := by
  refine D.has (fun _ _ _ _ _ _ us hl => match us, hl with | [_, _], _ => rfl) fun f fd F => F.ok sc__living_of (fun vs H Q E h => ?_) (fun cdv A outer s H vs Q E hr h => ?_)
  · obtain ⟨a, dx, fs, js, hs, rfl, _⟩ := h; rfl
  obtain ⟨a, dx, fs, js, hs, rfl, ha, WF, l6, lh, hm, q⟩ := h
  refine ⟨_, (pss_cons (ps_setLc (i := 4) (own := [("parts", 2)]) rfl sc__living_of.nd rfl rfl (sw_true rfl rfl rfl (by decide +kernel)) (pi_list (pe_fld (pv 0) rfl)) (blkOk_by (N := ["walk", "many", "parts", "part", "possible", "at", "ahead", "not_ahead", "living", "moment", "before"]) (sc := defScope s__living_of) (own := [("parts", 2)]) (by decide +kernel)) (fun _ _ _ _ _ => (pg_name (i := 2) sc__living_of.nd rfl (.inl rfl) (.inr rfl))) (fun _ _ _ _ _ => pts_nil) (fun _ _ _ _ _ => (pe_callB (cr_sumK (K := K) rfl rfl) (by rfl) B.zsum (by decide +kernel) (pa_cons (pe_lc (own := [("part", 3)]) rfl sc__living_of.nd ((pi_listK (K := K) rfl) (pv 2)) (blkOk_in (N := ["walk", "many", "parts", "part", "possible", "at", "ahead", "not_ahead", "living", "moment", "before"]) (own := [("part", 3)]) rfl (by decide +kernel)) (fun _ _ _ _ _ => (pg_name (i := 3) sc__living_of.nd rfl (.inl rfl) (.inr rfl))) (fun _ _ _ _ _ => pts_nil) (fun _ _ _ _ _ => (pe_op op_shl pe_int (pv 3)))) pa_nil))))
      (pss_cons (ps_setLc (i := 7) (own := [("at", 5)]) rfl sc__living_of.nd rfl rfl (sw_true rfl rfl rfl (by decide +kernel)) (pi_range1 (by rfl) B.zrange (pa_cons (pv 1) pa_nil)) (blkOk_by (N := ["walk", "many", "parts", "part", "possible", "at", "ahead", "not_ahead", "living", "moment", "before"]) (sc := defScope s__living_of) (own := [("at", 5)]) (by decide +kernel)) (fun _ _ _ _ _ => (pg_name (i := 5) sc__living_of.nd rfl (.inr rfl) (.inl rfl))) (fun _ _ _ _ _ => pts_nil) (fun _ _ _ _ _ => (pe_callB (cr_sumK (K := K) rfl rfl) (by rfl) B.zsum (by decide +kernel) (pa_cons (pe_lc (own := [("ahead", 6)]) rfl sc__living_of.nd ((pi_listK (K := K) rfl) (pe_ix (ixL (K := K) rfl) (pe_fldK (K := K) rfl (pv 0) rfl) (pe_un un_neg pe_int) (fun _ _ => rfl))) (blkOk_in (N := ["walk", "many", "parts", "part", "possible", "at", "ahead", "not_ahead", "living", "moment", "before"]) (own := [("ahead", 6)]) rfl (by decide +kernel)) (fun _ _ _ _ _ => (pg_name (i := 6) sc__living_of.nd rfl (.inl rfl) (.inr rfl))) (fun _ _ _ _ _ => (pts_one (pt_not (pt_truI (pe_op op_and (pe_op op_shr (pv 6) (pv 5)) pe_int))))) (fun _ _ _ _ _ => (pe_op op_shl pe_int (pv 6)))) pa_nil))))
      (pss_cons (ps_set (i := 8) sc__living_of.nd rfl (.inl rfl) (pe_lst (pa_cons (pe_ix ix_list (pv 4) (pe_ix ix_list (pe_fld (pv 0) rfl) (pe_un un_neg pe_int) (fun _ _ => rfl)) (fun _ _ => rfl)) pa_nil)))
      (pss_cons (ps_for PassesOwn.never rfl (pi_range3 (by rfl) B.zrange (pa_cons (pe_op op_sub (pe_fld (pv 0) rfl) pe_int) (pa_cons (pe_un un_neg pe_int) (pa_cons (pe_un un_neg pe_int) pa_nil)))) (pg_name (i := 9) sc__living_of.nd rfl (.inl rfl)) (pss_cons (ps_set (i := 10) sc__living_of.nd rfl (.inl rfl) (pe_h h__standings_before (hr.mono (by decide)) (pa_cons (pe_ix ix_list (pv 8) (pe_un un_neg pe_int) (fun _ _ => rfl)) (pa_cons (pe_ix ix_list (pe_fld (pv 0) rfl) (pv 9) (fun _ _ => rfl)) (pa_cons (pv 7) (pa_cons (pe_ix ix_seq (pe_fld (pv 0) rfl) (pv 9) (fun _ _ => rfl)) pa_nil))))))
      (pss_one (ps_expr (pe_bm PySem.F.plainAttrs_list PySem.F.slot_list_append PySem.F.type_list_append mt_append (pv 8) (pa_cons (pe_op op_and (pv 10) (pe_ix ix_list (pv 4) (pe_ix ix_list (pe_fld (pv 0) rfl) (pv 9) (fun _ _ => rfl)) (fun _ _ => rfl))) pa_nil))))))
      (pss_cons (ps_if (pt_cmpR op_eq (pe_ix ix_list (pv 8) (pe_un un_neg pe_int) (fun _ _ => rfl)) pe_int (nomark _)) (pss_one (ps_ret (pe_op op_rep (pe_lst (pa_cons pe_int pa_nil)) (pe_callB call_len_seq (by rfl) B.zlen (by decide +kernel) (pa_cons (pv 8) pa_nil))))) pss_nil)
      (pss_one (ps_ret (pe_revL (pv 8))))))))), ?_⟩
  obtain ⟨vp, fp, hp⟩ := WF.parts
  obtain ⟨pp, ps, rfl, hpS, hpA⟩ := hp.list
  have lps : ps.length = (subsN js.length).length := by rw [hpA.length, List.length_map]
  have l64 : 2 ^ js.length ≤ 64 := Nat.le_trans (Nat.pow_le_pow_right (by decide) l6) (by decide)
  have lsb := subs_len js.length
  -- a sum of powers
  have sumE : ∀ ms : List Nat, (ms.map fun m => ((2 ^ m : Nat) : Int)).sum = ((crewN ms : Nat) : Int) := fun ms => by
    have := natV_sum (ms.map fun m => 2 ^ m)
    rw [List.map_map] at this
    exact this
  -- possible
  refine ⟨_, rfl, a, C, dx, fs, _, rfl, ha, W.cl, W.nparts, fp, pp, rfl, ⟨_, hpS⟩, fun D1 hD1 => lc_list (K := K) (a := pp) (xs := ps) (fun j H3 => Same H H3 ∧ H3 D1 = some (.lst (natV (((subsN js.length).take j).map crewN)))) ⟨same_new hD1, upd_same⟩ (fun _ _ _ z => z.1.seq hpS) ?_ ?_⟩
  · rintro j x H3 hx ⟨s3, e3⟩
    obtain ⟨d, hd, hv⟩ := hpA.get hx
    rw [List.getElem?_map] at hd
    cases ej : (subsN js.length)[j]? with
    | none => rw [ej] at hd; cases hd
    | some wn =>
    rw [ej] at hd
    cases Option.some.inj hd
    obtain ⟨wa, rfl, hw⟩ := Dp.nats hv
    obtain ⟨wl, wb⟩ := subs_in js.length wn (List.mem_of_getElem? ej)
    refine ⟨rfl, yesIf ⟨_, rfl, wa, rfl, ⟨_, s3.seq hw⟩, fun D2 hD2 => lc_list (K := K) (a := wa) (xs := natV wn) (fun m H4 => Same H3 H4 ∧ H4 D2 = some (.lst (((wn.take m).map fun m => ((2 ^ m : Nat) : Int)).map V.int))) ⟨same_new hD2, upd_same⟩ (fun _ _ _ z => (s3.trans z.1).seq hw) ?_ ?_⟩⟩
    · rintro m y H4 hy ⟨s4, e4⟩
      rw [List.getElem?_map] at hy
      cases em : wn[m]? with
      | none => rw [em] at hy; cases hy
      | some z =>
      rw [em] at hy
      cases Option.some.inj hy
      have zb := wb z (List.mem_of_getElem? em)
      refine ⟨rfl, yesIf ⟨_, rfl, _, _, rfl, rfl, ⟨by omega, by omega, by decide⟩, _, e4, ?_, Same.app hD2 s4, ?_⟩⟩
      · rw [List.length_map, List.length_map, List.length_take]
        exact small1000 (by omega)
      · rw [upd_same, map_take_succ _ em, List.map_append]
        show some (HO.lst (_ ++ [V.int (1 * 2 ^ ((z : Int)).toNat)])) = _
        rw [one_shl]; rfl
    · rintro H4 ⟨s4, e4⟩
      rw [List.length_map, List.take_length] at e4
      refine ⟨_, _, rfl, SqL.of e4, _, s4 _ _ e3, ?_, Same.app hD1 (s3.trans s4), ?_⟩
      · rw [List.length_map, List.length_map, List.length_take]
        exact small1000 (by omega)
      · rw [upd_same, map_take_succ _ ej, natV, natV, List.map_append, sumE]; rfl
  rintro H1 ⟨s1, e1⟩
  rw [lps, List.take_length] at e1
  -- not_ahead
  refine ⟨_, rfl, _, rfl, by omega, by omega, fun D3 hD3 => lc_range (lo := 0) (n := ((js.length : Int)).toNat) (fun j H3 => Same H1 H3 ∧ H3 D3 = some (.lst (natV ((List.range j).map (notAheadN js.length))))) ⟨same_new hD3, upd_same⟩ ?_ ?_⟩
  · rintro j H3 hj ⟨s3, e3⟩
    have jl : j < js.length := by simpa using hj
    have ej : (0 : Int) + (j : Int) = ((j : Nat) : Int) := by omega
    rw [ej]
    have hl : 2 ^ js.length - 1 < (subsN js.length).length := by have := Nat.two_pow_pos js.length; omega
    obtain ⟨d, hd, hv⟩ := hpA.get (i := ps.length - 1) (v := ps[ps.length - 1]'(by omega)) (List.getElem?_eq_getElem _)
    have el : ps.length - 1 = 2 ^ js.length - 1 := by omega
    rw [List.getElem?_map, el, List.getElem?_eq_getElem hl] at hd
    cases Option.some.inj hd
    obtain ⟨wa, ew, hw⟩ := Dp.nats hv
    obtain ⟨wl, wb⟩ := subs_in js.length ((subsN js.length)[2 ^ js.length - 1]) (List.getElem_mem hl)
    have en : notAheadN js.length j = crewN (((subsN js.length)[2 ^ js.length - 1]).filter fun a => a / 2 ^ j % 2 == 0) := by
      unfold notAheadN
      rw [List.getD_eq_getElem?_getD, List.getElem?_eq_getElem hl]; rfl
    revert wl wb en hw
    generalize (subsN js.length)[2 ^ js.length - 1] = wn
    intro hw wl wb en
    have s13 := s1.trans s3
    have pz : (0 : Int) ≤ ((j : Nat) : Int) := by omega
    refine ⟨rfl, yesIf ⟨_, rfl, a, C, dx, fs, _, rfl, s13 _ _ ha, W.cl, W.nparts, fp, _, rfl, pp, ps, (-1 : Int), .ref wa, rfl, rfl, s13.seq hpS, atI_neg (by rw [List.getElem?_eq_getElem (by omega), ew]), wa, rfl, ⟨_, s13.seq hw⟩, fun D2 hD2 => ?_⟩⟩
    refine lc_list (K := K) (a := wa) (xs := natV wn) (fun m H4 => Same H3 H4 ∧ H4 D2 = some (.lst ((((wn.take m).filter fun a => a / 2 ^ j % 2 == 0).map fun m => ((2 ^ m : Nat) : Int)).map V.int))) ⟨same_new hD2, upd_same⟩ (fun _ _ _ z => (s13.trans z.1).seq hw) ?_ ?_
    · rintro m y H4 hy ⟨s4, e4⟩
      rw [List.getElem?_map] at hy
      cases em : wn[m]? with
      | none => rw [em] at hy; cases hy
      | some z =>
      rw [em] at hy
      cases Option.some.inj hy
      have zb := wb z (List.mem_of_getElem? em)
      refine ⟨rfl, _, rfl, _, rfl, _, _, rfl, rfl, pz, _, _, rfl, rfl, _, rfl, ?_⟩
      rw [shr_nat, odd_test]
      have e9 : (!decide (z / 2 ^ j % 2 = 1)) = (z / 2 ^ j % 2 == 0) := by
        have : z / 2 ^ j % 2 = 0 ∨ z / 2 ^ j % 2 = 1 := by omega
        rcases this with t | t <;> rw [t] <;> rfl
      show (if (!decide (z / 2 ^ j % 2 = 1)) = true then _ else _)
      rw [e9]
      refine ite2 (fun t => ?_) (fun t => ?_)
      · refine ⟨_, rfl, _, _, rfl, rfl, ⟨by omega, by omega, by decide⟩, _, e4, ?_, Same.app hD2 s4, ?_⟩
        · rw [List.length_map, List.length_map]
          refine small1000 (Nat.le_trans (List.length_filter_le _ _) ?_)
          rw [List.length_take]; omega
        · rw [upd_same, filter_take_succ _ em, if_pos t, List.map_append, List.map_append]
          show some (HO.lst (_ ++ [V.int (1 * 2 ^ ((z : Int)).toNat)])) = _
          rw [one_shl]; rfl
      · refine ⟨s4, ?_⟩
        rw [filter_take_succ _ em, if_neg t, List.append_nil]; exact e4
    · rintro H4 ⟨s4, e4⟩
      rw [List.length_map, List.take_length] at e4
      refine ⟨_, _, rfl, SqL.of e4, _, s4 _ _ e3, ?_, Same.app hD3 (s3.trans s4), ?_⟩
      · rw [List.length_map, List.length_map, List.length_range]
        exact small1000 (by omega)
      · rw [upd_same, List.range_succ, List.map_append, natV, natV, List.map_append, sumE, ← en]; rfl
  rintro H2 ⟨s2, e2⟩
  rw [Int.toNat_natCast] at e2
  have s12 : Same H H2 := s1.trans s2
  have n1 : (D1 : Addr) = D1 := rfl
  clear hD1 hD3 lps hpS hpA hp
  have ePoss : H2 D1 = some (.lst (natV ((subsN js.length).map crewN))) := s2 _ _ e1
  have eNa : H2 D3 = some (.lst (natV (naL js.length))) := e2
  clear e1 e2
  obtain ⟨pd, fd_, hd_⟩ := WF.doubles
  obtain ⟨pg, fg_, hg_⟩ := WF.grown
  obtain ⟨pm, fm_, hm_⟩ := WF.most
  have dAt : ∀ t, t ≤ hs.length → (natV ((List.range (hs.length + 1)).map (doubN js)))[t]? = some (V.int ((doubN js t : Nat) : Int)) := fun t ht => by
    rw [List.getElem?_map, List.getElem?_map, List.getElem?_range (by omega)]; rfl
  have dLen : (natV ((List.range (hs.length + 1)).map (doubN js))).length = hs.length + 1 := by rw [List.length_map, List.length_map, List.length_range]
  have gAt : ∀ t, t < hs.length → (natV ((List.range hs.length).map (growN js)))[t]? = some (V.int ((growN js t : Nat) : Int)) := fun t ht => by
    rw [List.getElem?_map, List.getElem?_map, List.getElem?_range ht]; rfl
  have mAt : ∀ t, t < hs.length → (natV hs)[t]? = some (V.int ((hs.getD t 0 : Nat) : Int)) := fun t ht => by
    rw [List.getElem?_map, List.getElem?_eq_getElem ht, List.getD_eq_getElem?_getD, List.getElem?_eq_getElem ht]; rfl
  have pAt : ∀ c, c < 2 ^ js.length → (natV ((subsN js.length).map crewN))[c]? = some (V.int ((possN js.length c : Nat) : Int)) := fun c hc => by
    rw [List.getElem?_map, poss_at hc]; rfl
  -- living = [possible[walk.doubles[-1]]]
  refine ⟨_, rfl, _, rfl, a, C, dx, fs, _, rfl, s12 _ _ ha, W.cl, W.ndoubles, fd_, _, rfl, pd, _, (-1 : Int), V.int ((doubN js hs.length : Nat) : Int), rfl, rfl, s12.seq hd_, atI_neg (by rw [dLen]; exact dAt _ (Nat.le_refl _)), D1, _, _, _, rfl, rfl, SqL.of ePoss, atI_nat (pAt _ (doub_lt js _)), by show 1 ≤ sizeLine; decide, fun pl hpl => ?_⟩
  have s3 : Same H2 (upd H2 pl (.lst [.int ((possN js.length (doubN js hs.length) : Nat) : Int)])) := same_new hpl
  have e3 : (upd H2 pl (.lst [V.int ((possN js.length (doubN js hs.length) : Nat) : Int)])) pl = some (.lst (natV ((List.range 1).map (livK js hs)))) := by rw [upd_same]; rfl
  have npl := s12.free hpl
  have ex0 : H pl = none := npl
  revert s3 e3
  generalize upd H2 pl (.lst [V.int ((possN js.length (doubN js hs.length) : Nat) : Int)]) = H3
  intro s3 e3
  have nD1 : D1 ≠ pl := ne_of_none ePoss hpl
  have nD3 : D3 ≠ pl := ne_of_none eNa hpl
  have b3 : But pl H2 H3 := But.of_same s3
  clear s3 hpl
  have toS : ∀ {Hn : Hp}, But pl H2 Hn → Same H Hn := fun {Hn} bt x o e => bt x o (ne_of_none e npl) (s12 x o e)
  refine ⟨_, rfl, a, C, dx, fs, _, rfl, toS b3 _ _ ha, W.cl, W.nticks, WF.ticks, _, _, rfl, rfl, _, rfl, _, rfl, _, _, _, hs.length, rfl, rgc_down (Nat.le_trans lh (by decide)), ?_⟩
  refine for_rangeC (lo := (hs.length : Int) - 1) (c := -1) (n := hs.length) (fun i σ Hn => But pl H2 Hn ∧ Hn pl = some (.lst (natV ((List.range (i + 1)).map (livK js hs)))) ∧ ∃ v9 v10, σ = [some (.ref a), some (.int (js.length : Int)), none, none, some (.ref D1), none, none, some (.ref D3), some (.ref pl), v9, v10]) ⟨b3, e3, _, _, rfl⟩ ?_ ?_
  · clear b3 e3
    rintro i σ Hn hi ⟨bn, en, v9, v10, rfl⟩
    have sn := toS bn
    have emo : ((hs.length : Int) - 1) + ((i : Nat) : Int) * (-1) = ((hs.length - (i + 1) : Nat) : Int) := by omega
    rw [emo]
    have mo : hs.length - (i + 1) < hs.length := by omega
    have ll : (natV ((List.range (i + 1)).map (livK js hs))).length = i + 1 := by rw [List.length_map, List.length_map, List.length_range]
    have lat : (natV ((List.range (i + 1)).map (livK js hs)))[(natV ((List.range (i + 1)).map (livK js hs))).length - 1]? = some (V.int ((livK js hs i : Nat) : Int)) := by
      rw [ll, List.getElem?_map, List.getElem?_map, List.getElem?_range (by omega)]; rfl
    have mb : hs.getD (hs.length - (i + 1)) 0 ≤ 1000 := by
      rw [List.getD_eq_getElem?_getD, List.getElem?_eq_getElem mo]
      exact hm _ (List.getElem_mem mo)
    have fin : ∀ H4 : Hp, Same Hn H4 → But pl H2 H4 ∧ H4 pl = some (.lst (natV ((List.range (i + 1)).map (livK js hs)))) := fun H4 s4 => ⟨bn.trans (But.of_same s4), s4 _ _ en⟩
    have mk := mAt _ mo
    have hseq := hm_.mono sn
    refine ⟨_, rfl, _, rfl, pl, _, (-1 : Int), _, rfl, rfl, SqL.of en, atI_neg lat, _, rfl, a, C, dx, fs, _, rfl, sn _ _ ha, W.cl, W.ngrown, fg_, _, rfl, pg, _, _, _, rfl, rfl, sn.seq hg_, atI_nat (gAt _ mo), _, rfl, _, rfl, a, C, dx, fs, _, rfl, sn _ _ ha, W.cl, W.nmost, fm_, _, rfl, ?_⟩
    have ixm : ∀ R : VK, R (V.int ((hs.getD (hs.length - (i + 1)) 0 : Nat) : Int)) Hn → rIx K (V.ref pm) (V.int ((hs.length - (i + 1) : Nat) : Int)) Hn R := fun R r => by
      rcases hseq with z | z
      · exact .inl ⟨pm, _, _, _, rfl, rfl, z, atI_nat mk, r⟩
      · exact .inr (.inl ⟨pm, _, _, _, rfl, rfl, z, atI_nat mk, r⟩)
    refine ixm _ ?_
    refine ⟨_, _, _, D3, naL js.length, rfl, SqL.of (bn _ _ nD3 eNa), by unfold naL; rw [List.length_map, List.length_range]; exact l6, na_lt l6, mb, fun H4 s4 => ?_⟩
    obtain ⟨b4, e4⟩ := fin H4 s4
    have sn4 := toS b4
    dsimp only [List.set]
    refine ⟨_, rfl, .inl ⟨rfl, _, SqL.of e4⟩, _, rfl, _, rfl, _, rfl, a, C, dx, fs, _, rfl, sn4 _ _ ha, W.cl, W.ndoubles, fd_, _, rfl, pd, _, _, _, rfl, rfl, sn4.seq hd_, atI_nat (dAt _ (by omega)), D1, _, _, _, rfl, rfl, SqL.of (b4 _ _ nD1 ePoss), atI_nat (pAt _ (doub_lt js _)), _, _, rfl, rfl, pl, _, _, rfl, rfl, e4, by rw [ll]; exact small1000 (by omega), ?_⟩
    refine ⟨b4.trans But.set, ?_, _, _, rfl⟩
    rw [upd_same, List.range_succ (n := i + 1), List.map_append, natV, natV, List.map_append]
    dsimp only
    rw [and_nat]
    rfl
  · rintro σ Hn ⟨bn, en, v9, v10, rfl⟩
    have sn := toS bn
    have ll : (natV ((List.range (hs.length + 1)).map (livK js hs))).length = hs.length + 1 := by rw [List.length_map, List.length_map, List.length_range]
    have lat : (natV ((List.range (hs.length + 1)).map (livK js hs)))[(natV ((List.range (hs.length + 1)).map (livK js hs))).length - 1]? = some (V.int ((livK js hs hs.length : Nat) : Int)) := by
      rw [ll, List.getElem?_map, List.getElem?_map, List.getElem?_range (by omega)]; rfl
    refine ⟨_, rfl, _, rfl, pl, _, (-1 : Int), _, rfl, rfl, SqL.of en, atI_neg lat, rfl, _, rfl, ?_⟩
    unfold livL at q
    by_cases c0 : livK js hs hs.length = 0
    · rw [if_pos c0] at q
      rw [c0]
      refine iteT ⟨by show 1 ≤ sizeLine; decide, fun l hl => ?_⟩
      have s5 : Same Hn (upd Hn l (.lst [.int 0])) := same_new hl
      have e5 : (upd Hn l (.lst [V.int 0])) l = some (.lst [V.int 0]) := upd_same
      have en5 := s5 _ _ en
      revert s5 e5 en5
      generalize upd Hn l (.lst [V.int 0]) = H5
      intro s5 e5 en5
      refine ⟨_, rfl, pl, _, rfl, .inl (SqL.of en5), l, _, _, rfl, rfl, e5, by omega, by rw [ll]; omega, ?_, fun p hp => ?_⟩
      · rw [ll]; exact Nat.le_of_lt (small1000 (by show 1 * (((hs.length + 1 : Nat) : Int)).toNat ≤ 1000; rw [Int.toNat_natCast]; omega))
      · refine q p _ ((sn.trans s5).free hp) (sn.trans (s5.trans (same_new hp))) ?_
        rw [upd_same, ll, Int.toNat_natCast, List.flatten_replicate_singleton, natV, List.map_replicate]; rfl
    · rw [if_neg c0] at q
      have d0 : decide (V.int ((livK js hs hs.length : Nat) : Int) = V.int 0) = false := decide_eq_false fun z => c0 (by have := V.int.inj z; omega)
      rw [d0]
      refine iteF ⟨_, rfl, pl, _, rfl, SqL.of en, fun p hp => ?_⟩
      refine q p _ (sn.free hp) (sn.trans (same_new hp)) ?_
      rw [upd_same, ← range_rev, natV, natV, List.map_reverse]
end
end Ts
namespace Ts
open PySem PySem.Spec PyProof.Rows L2
section
variable {P : Program} {w : World} {K : PySem.W.Frag} {mg : Str → Option Value} {base : Heap}
theorem ok_initW {C f : Addr} {fd : FuncData} (F : Fun K "__init__" "Walk.__init__" s_Walk___init__ f fd) (B : Blt0 mg) (W : WalkC K mg C) (h_sizes_of_crews : Has P w K mg base 1 "sizes_of_crews" ["many"] spSizesOf) (h_parts_of_crews : Has P w K mg base 1 "parts_of_crews" ["many"] (spPartsOf K))
    (h_turns_of : Has P w K mg base 2 "turns_of" ["share", "moment"] (spOfT K)) (h_crew_of : Has P w K mg base 1 "crew_of" ["members"] (spCrewOf K)) (h__grown_between : Has P w K mg base 2 "_grown_between" ["before", "after"] (spGrown K))
    (h__living_of : Has P w K mg base 2 "_living_of" ["walk", "many"] (spLivingOf K C)) : FnOk P w K mg base CX0 3 f fd ["self", "shares", "hands"] (spInitW K C) := by
  refine F.ok sc_Walk___init__ (fun vs H Q E h => ?_) (fun cdv A outer s H vs Q E hr h => ?_)
  · obtain ⟨a, dx, ps, ph, xs, js, hs, rfl, _⟩ := h; rfl
  obtain ⟨a, dx, ps, ph, xs, js, hs, rfl, ha, hS, hA, hH, G, l6, lh, hm, q⟩ := h
  refine ⟨_, (pss_cons (ps_fld (pv 0) (pe_callB call_len_seq (by rfl) B.zlen (by decide +kernel) (pa_cons (pv 2) pa_nil)) rfl)
      (pss_cons (ps_fld (pv 0) (pv 2) rfl)
      (pss_cons (ps_fld (pv 0) (pe_h h_sizes_of_crews (hr.mono (by decide)) (pa_cons (pe_callB call_len_seq (by rfl) B.zlen (by decide +kernel) (pa_cons (pv 1) pa_nil)) pa_nil)) rfl)
      (pss_cons (ps_fld (pv 0) (pe_h h_parts_of_crews (hr.mono (by decide)) (pa_cons (pe_callB call_len_seq (by rfl) B.zlen (by decide +kernel) (pa_cons (pv 1) pa_nil)) pa_nil)) rfl)
      (pss_cons (ps_setLc (i := 5) (own := [("moment", 3)]) rfl sc_Walk___init__.nd rfl rfl (sw_true rfl rfl rfl (by decide +kernel)) (pi_range1 (by rfl) B.zrange (pa_cons (pe_op op_add (pe_callB call_len_seq (by rfl) B.zlen (by decide +kernel) (pa_cons (pv 2) pa_nil)) pe_int) pa_nil)) (blkOk_by (N := ["self", "shares", "hands", "moment", "share", "numbers", "row", "low", "_", "at", "high", "after"]) (sc := defScope s_Walk___init__) (own := [("moment", 3)]) (by decide +kernel)) (fun _ _ _ _ _ => (pg_name (i := 3) sc_Walk___init__.nd rfl (.inr rfl) (.inl rfl))) (fun _ _ _ _ _ => pts_nil) (fun _ _ _ _ _ => (pe_lc (own := [("share", 4)]) rfl sc_Walk___init__.nd ((pi_tupK (K := K) rfl) (pv 1)) (blkOk_in (N := ["self", "shares", "hands", "moment", "share", "numbers", "row", "low", "_", "at", "high", "after"]) (own := [("share", 4)]) rfl (by decide +kernel)) (fun _ _ _ _ _ => (pg_name (i := 4) sc_Walk___init__.nd rfl (.inl rfl) (.inr rfl))) (fun _ _ _ _ _ => pts_nil) (fun _ _ _ _ _ => (pe_h h_turns_of (hr.mono (by decide)) (pa_cons (pv 4) (pa_cons (pv 3) pa_nil)))))))
      (pss_cons (ps_fld (pv 0) (pe_lc (own := [("row", 6)]) rfl sc_Walk___init__.nd (pi_list (pv 5)) (blkOk_by (N := ["self", "shares", "hands", "moment", "share", "numbers", "row", "low", "_", "at", "high", "after"]) (sc := defScope s_Walk___init__) (own := [("row", 6)]) (by decide +kernel)) (fun _ _ _ _ _ => (pg_name (i := 6) sc_Walk___init__.nd rfl (.inl rfl) (.inr rfl))) (fun _ _ _ _ _ => pts_nil) (fun _ _ _ _ _ => (pe_lc (own := [("low", 7), ("_", 8)]) rfl sc_Walk___init__.nd ((pi_listK (K := K) rfl) (pv 6)) (blkOk_in (N := ["self", "shares", "hands", "moment", "share", "numbers", "row", "low", "_", "at", "high", "after"]) (own := [("low", 7), ("_", 8)]) rfl (by decide +kernel)) (fun _ _ _ _ _ => (pg_tupK (K := K) (n := 2) rfl rfl (pgs_cons (pg_name (i := 7) sc_Walk___init__.nd rfl (.inl rfl) (.inr rfl)) (pgs_cons (pg_name (i := 8) sc_Walk___init__.nd rfl (.inl rfl) (.inr rfl)) pgs_nil)))) (fun _ _ _ _ _ => pts_nil) (fun _ _ _ _ _ => (pv 7))))) rfl)
      (pss_cons (ps_fld (pv 0) (pe_lc (own := [("row", 6)]) rfl sc_Walk___init__.nd (pi_list (pv 5)) (blkOk_by (N := ["self", "shares", "hands", "moment", "share", "numbers", "row", "low", "_", "at", "high", "after"]) (sc := defScope s_Walk___init__) (own := [("row", 6)]) (by decide +kernel)) (fun _ _ _ _ _ => (pg_name (i := 6) sc_Walk___init__.nd rfl (.inl rfl) (.inr rfl))) (fun _ _ _ _ _ => pts_nil) (fun _ _ _ _ _ => (pe_h h_crew_of (hr.mono (by decide)) (pa_cons (pe_lc (own := [("at", 9), ("low", 7), ("high", 10)]) rfl sc_Walk___init__.nd (pi_enumK (K := K) rfl (by rfl) B.zenumerate (pa_cons (pv 6) pa_nil)) (blkOk_in (N := ["self", "shares", "hands", "moment", "share", "numbers", "row", "low", "_", "at", "high", "after"]) (own := [("at", 9), ("low", 7), ("high", 10)]) rfl (by decide +kernel)) (fun _ _ _ _ _ => (pg_tupK (K := K) (n := 2) rfl rfl (pgs_cons (pg_name (i := 9) sc_Walk___init__.nd rfl (.inl rfl) (.inr rfl)) (pgs_cons (pg_tupK (K := K) (n := 2) rfl rfl (pgs_cons (pg_name (i := 7) sc_Walk___init__.nd rfl (.inl rfl) (.inr rfl)) (pgs_cons (pg_name (i := 10) sc_Walk___init__.nd rfl (.inl rfl) (.inr rfl)) pgs_nil))) pgs_nil)))) (fun _ _ _ _ _ => (pts_one (pt_cmpR op_lt (pv 7) (pv 10) (nomark _)))) (fun _ _ _ _ _ => (pv 9))) pa_nil)))) rfl)
      (pss_cons (ps_fld (pv 0) (pe_lc (own := [("row", 6), ("after", 11)]) rfl sc_Walk___init__.nd (pi_zip (by rfl) B.zzip (pa_cons (pe_fld (pv 0) rfl) (pa_cons (pe_slice sl_list (pe_fld (pv 0) rfl) (po_some pe_int) po_none) pa_nil))) (blkOk_by (N := ["self", "shares", "hands", "moment", "share", "numbers", "row", "low", "_", "at", "high", "after"]) (sc := defScope s_Walk___init__) (own := [("row", 6), ("after", 11)]) (by decide +kernel)) (fun _ _ _ _ _ => (pg_tupK (K := K) (n := 2) rfl rfl (pgs_cons (pg_name (i := 6) sc_Walk___init__.nd rfl (.inl rfl) (.inr rfl)) (pgs_cons (pg_name (i := 11) sc_Walk___init__.nd rfl (.inl rfl) (.inr rfl)) pgs_nil)))) (fun _ _ _ _ _ => pts_nil) (fun _ _ _ _ _ => (pe_h h__grown_between (hr.mono (by decide)) (pa_cons (pv 6) (pa_cons (pv 11) pa_nil))))) rfl)
      (pss_one (ps_fld (pv 0) (pe_h h__living_of (hr.mono (by decide)) (pa_cons (pv 0) (pa_cons (pe_callB call_len_seq (by rfl) B.zlen (by decide +kernel) (pa_cons (pv 1) pa_nil)) pa_nil))) rfl)))))))))), ?_⟩
  have lx : xs.length = js.length := by rw [hA.length]; exact List.length_map _
  have ins : ∀ (fs : List (Str × V)), NoSeq (.ins C dx fs) := fun _ => NoSeq.ins
  have bb : But a H H := But.refl
  have bb : But a H H := But.refl
  have bb : But a H H := But.refl
  have bb : But a H H := But.refl
  have bb : But a H H := But.refl
  -- ticks
  refine ⟨_, rfl, ph, _, rfl, hH, _, rfl, a, C, dx, _, rfl, ha, W.cl, W.nticks, by show 0 < 1000; decide, ?_⟩
  rw [show ((natV hs).length : Int) = (hs.length : Int) by rw [List.length_map]]
  have f1 := putF_len "ticks" (.int (hs.length : Int)) ([] : List (Str × V))
  rw [List.length_nil] at f1
  have lticks : (putF "ticks" (.int (hs.length : Int)) ([] : List (Str × V))).lookup ("ticks" : Str) = some (.int (hs.length : Int)) := by rw [lookup_putF, if_pos rfl]
  have lcrews : (putF "ticks" (.int (hs.length : Int)) ([] : List (Str × V))).lookup ("crews" : Str) = none := by rw [lookup_putF, if_neg (by decide +kernel)]; rfl
  have lis_alive : (putF "ticks" (.int (hs.length : Int)) ([] : List (Str × V))).lookup ("is_alive" : Str) = none := by rw [lookup_putF, if_neg (by decide +kernel)]; rfl
  have lchoices : (putF "ticks" (.int (hs.length : Int)) ([] : List (Str × V))).lookup ("choices" : Str) = none := by rw [lookup_putF, if_neg (by decide +kernel)]; rfl
  have lahead_behind : (putF "ticks" (.int (hs.length : Int)) ([] : List (Str × V))).lookup ("ahead_behind" : Str) = none := by rw [lookup_putF, if_neg (by decide +kernel)]; rfl
  have lahead_before : (putF "ticks" (.int (hs.length : Int)) ([] : List (Str × V))).lookup ("ahead_before" : Str) = none := by rw [lookup_putF, if_neg (by decide +kernel)]; rfl
  have lnumbers_of : (putF "ticks" (.int (hs.length : Int)) ([] : List (Str × V))).lookup ("numbers_of" : Str) = none := by rw [lookup_putF, if_neg (by decide +kernel)]; rfl
  have b1 : But a H (upd H a (.ins C dx (putF "ticks" (.int (hs.length : Int)) ([] : List (Str × V))))) := But.set
  have e1 : (upd H a (.ins C dx (putF "ticks" (.int (hs.length : Int)) ([] : List (Str × V))))) a = some (.ins C dx (putF "ticks" (.int (hs.length : Int)) ([] : List (Str × V)))) := upd_same
  generalize upd H a (.ins C dx (putF "ticks" (.int (hs.length : Int)) ([] : List (Str × V)))) = H1 at b1 e1
  generalize putF "ticks" (.int (hs.length : Int)) ([] : List (Str × V)) = F1 at f1 e1 lticks lcrews lis_alive lchoices lahead_behind lahead_before lnumbers_of
  replace hS := sqt_but (ha) NoSeq.ins b1 hS
  replace hA := dpa_but (ha) NoSeq.ins b1 hA
  replace hH := seq_but (ha) NoSeq.ins b1 hH
  replace bb := bb.trans b1
  -- most
  refine ⟨_, rfl, _, rfl, a, C, dx, _, rfl, e1, W.cl, W.nmost, by omega, ?_⟩
  have f2 := putF_len "most" (.ref ph) F1
  have lmost : (putF "most" (.ref ph) F1).lookup ("most" : Str) = some (.ref ph) := by rw [lookup_putF, if_pos rfl]
  have lticks : (putF "most" (.ref ph) F1).lookup ("ticks" : Str) = some (.int (hs.length : Int)) := by rw [lookup_putF, if_neg (by decide +kernel)]; exact lticks
  have lcrews : (putF "most" (.ref ph) F1).lookup ("crews" : Str) = none := by rw [lookup_putF, if_neg (by decide +kernel)]; exact lcrews
  have lis_alive : (putF "most" (.ref ph) F1).lookup ("is_alive" : Str) = none := by rw [lookup_putF, if_neg (by decide +kernel)]; exact lis_alive
  have lchoices : (putF "most" (.ref ph) F1).lookup ("choices" : Str) = none := by rw [lookup_putF, if_neg (by decide +kernel)]; exact lchoices
  have lahead_behind : (putF "most" (.ref ph) F1).lookup ("ahead_behind" : Str) = none := by rw [lookup_putF, if_neg (by decide +kernel)]; exact lahead_behind
  have lahead_before : (putF "most" (.ref ph) F1).lookup ("ahead_before" : Str) = none := by rw [lookup_putF, if_neg (by decide +kernel)]; exact lahead_before
  have lnumbers_of : (putF "most" (.ref ph) F1).lookup ("numbers_of" : Str) = none := by rw [lookup_putF, if_neg (by decide +kernel)]; exact lnumbers_of
  have b2 : But a H1 (upd H1 a (.ins C dx (putF "most" (.ref ph) F1))) := But.set
  have e2 : (upd H1 a (.ins C dx (putF "most" (.ref ph) F1))) a = some (.ins C dx (putF "most" (.ref ph) F1)) := upd_same
  generalize upd H1 a (.ins C dx (putF "most" (.ref ph) F1)) = H2 at b2 e2
  generalize putF "most" (.ref ph) F1 = F2 at f2 e2 lmost lticks lcrews lis_alive lchoices lahead_behind lahead_before lnumbers_of
  replace hS := sqt_but (e1) NoSeq.ins b2 hS
  replace hA := dpa_but (e1) NoSeq.ins b2 hA
  replace hH := seq_but (e1) NoSeq.ins b2 hH
  replace bb := bb.trans b2
  -- sizes
  refine ⟨_, rfl, ps, _, rfl, .inr hS, xs.length, rfl, by omega, fun pz G3 hpz t3 z3 => ?_⟩
  replace hS := sameT t3 hS
  replace hA := hA.mono t3
  replace hH := hH.mono t3
  replace bb := bb.trans (But.of_same t3)
  rw [lx] at z3
  have hZ : SqL K G3 pz (natV (sizesN js.length)) := SqL.of z3
  refine ⟨_, rfl, a, C, dx, _, rfl, t3 _ _ e2, W.cl, W.nsizes, by omega, ?_⟩
  have f3 := putF_len "sizes" (.ref pz) F2
  have lsizes : (putF "sizes" (.ref pz) F2).lookup ("sizes" : Str) = some (.ref pz) := by rw [lookup_putF, if_pos rfl]
  have lticks : (putF "sizes" (.ref pz) F2).lookup ("ticks" : Str) = some (.int (hs.length : Int)) := by rw [lookup_putF, if_neg (by decide +kernel)]; exact lticks
  have lmost : (putF "sizes" (.ref pz) F2).lookup ("most" : Str) = some (.ref ph) := by rw [lookup_putF, if_neg (by decide +kernel)]; exact lmost
  have lcrews : (putF "sizes" (.ref pz) F2).lookup ("crews" : Str) = none := by rw [lookup_putF, if_neg (by decide +kernel)]; exact lcrews
  have lis_alive : (putF "sizes" (.ref pz) F2).lookup ("is_alive" : Str) = none := by rw [lookup_putF, if_neg (by decide +kernel)]; exact lis_alive
  have lchoices : (putF "sizes" (.ref pz) F2).lookup ("choices" : Str) = none := by rw [lookup_putF, if_neg (by decide +kernel)]; exact lchoices
  have lahead_behind : (putF "sizes" (.ref pz) F2).lookup ("ahead_behind" : Str) = none := by rw [lookup_putF, if_neg (by decide +kernel)]; exact lahead_behind
  have lahead_before : (putF "sizes" (.ref pz) F2).lookup ("ahead_before" : Str) = none := by rw [lookup_putF, if_neg (by decide +kernel)]; exact lahead_before
  have lnumbers_of : (putF "sizes" (.ref pz) F2).lookup ("numbers_of" : Str) = none := by rw [lookup_putF, if_neg (by decide +kernel)]; exact lnumbers_of
  have b3 : But a G3 (upd G3 a (.ins C dx (putF "sizes" (.ref pz) F2))) := But.set
  have e3 : (upd G3 a (.ins C dx (putF "sizes" (.ref pz) F2))) a = some (.ins C dx (putF "sizes" (.ref pz) F2)) := upd_same
  generalize upd G3 a (.ins C dx (putF "sizes" (.ref pz) F2)) = H3 at b3 e3
  generalize putF "sizes" (.ref pz) F2 = F3 at f3 e3 lsizes lticks lmost lcrews lis_alive lchoices lahead_behind lahead_before lnumbers_of
  replace hS := sqt_but (t3 _ _ e2) NoSeq.ins b3 hS
  replace hA := dpa_but (t3 _ _ e2) NoSeq.ins b3 hA
  replace hH := seq_but (t3 _ _ e2) NoSeq.ins b3 hH
  replace hZ := sql_but (t3 _ _ e2) NoSeq.ins b3 hZ
  replace bb := bb.trans b3
  -- parts
  refine ⟨_, rfl, ps, _, rfl, .inr hS, xs.length, rfl, by omega, fun pq G4 hpq t4 z4 => ?_⟩
  replace hS := sameT t4 hS
  replace hA := hA.mono t4
  replace hH := hH.mono t4
  replace hZ := t4.seq hZ
  replace bb := bb.trans (But.of_same t4)
  rw [lx] at z4
  refine ⟨_, rfl, a, C, dx, _, rfl, t4 _ _ e3, W.cl, W.nparts, by omega, ?_⟩
  have f4 := putF_len "parts" (.ref pq) F3
  have lparts : (putF "parts" (.ref pq) F3).lookup ("parts" : Str) = some (.ref pq) := by rw [lookup_putF, if_pos rfl]
  have lticks : (putF "parts" (.ref pq) F3).lookup ("ticks" : Str) = some (.int (hs.length : Int)) := by rw [lookup_putF, if_neg (by decide +kernel)]; exact lticks
  have lmost : (putF "parts" (.ref pq) F3).lookup ("most" : Str) = some (.ref ph) := by rw [lookup_putF, if_neg (by decide +kernel)]; exact lmost
  have lsizes : (putF "parts" (.ref pq) F3).lookup ("sizes" : Str) = some (.ref pz) := by rw [lookup_putF, if_neg (by decide +kernel)]; exact lsizes
  have lcrews : (putF "parts" (.ref pq) F3).lookup ("crews" : Str) = none := by rw [lookup_putF, if_neg (by decide +kernel)]; exact lcrews
  have lis_alive : (putF "parts" (.ref pq) F3).lookup ("is_alive" : Str) = none := by rw [lookup_putF, if_neg (by decide +kernel)]; exact lis_alive
  have lchoices : (putF "parts" (.ref pq) F3).lookup ("choices" : Str) = none := by rw [lookup_putF, if_neg (by decide +kernel)]; exact lchoices
  have lahead_behind : (putF "parts" (.ref pq) F3).lookup ("ahead_behind" : Str) = none := by rw [lookup_putF, if_neg (by decide +kernel)]; exact lahead_behind
  have lahead_before : (putF "parts" (.ref pq) F3).lookup ("ahead_before" : Str) = none := by rw [lookup_putF, if_neg (by decide +kernel)]; exact lahead_before
  have lnumbers_of : (putF "parts" (.ref pq) F3).lookup ("numbers_of" : Str) = none := by rw [lookup_putF, if_neg (by decide +kernel)]; exact lnumbers_of
  have b4 : But a G4 (upd G4 a (.ins C dx (putF "parts" (.ref pq) F3))) := But.set
  have e4 : (upd G4 a (.ins C dx (putF "parts" (.ref pq) F3))) a = some (.ins C dx (putF "parts" (.ref pq) F3)) := upd_same
  generalize upd G4 a (.ins C dx (putF "parts" (.ref pq) F3)) = H4 at b4 e4
  generalize putF "parts" (.ref pq) F3 = F4 at f4 e4 lparts lticks lmost lsizes lcrews lis_alive lchoices lahead_behind lahead_before lnumbers_of
  replace hS := sqt_but (t4 _ _ e3) NoSeq.ins b4 hS
  replace hA := dpa_but (t4 _ _ e3) NoSeq.ins b4 hA
  replace hH := seq_but (t4 _ _ e3) NoSeq.ins b4 hH
  replace hZ := sql_but (t4 _ _ e3) NoSeq.ins b4 hZ
  replace z4 := dp_but (t4 _ _ e3) NoSeq.ins b4 z4
  replace bb := bb.trans b4
  -- numbers
  refine ⟨_, rfl, ph, _, rfl, hH, _, _, rfl, rfl, _, rfl, by rw [List.length_map]; omega, by rw [List.length_map]; omega, fun D1 hD1 => ?_⟩
  have etn : ((((natV hs).length : Nat) : Int) + 1).toNat = hs.length + 1 := by rw [List.length_map]; omega
  rw [etn]
  refine lc_range (lo := 0) (n := hs.length + 1) (fun i Hm => Same H4 Hm ∧ ∃ us, Hm D1 = some (.lst us) ∧ DpAll K (hid D1 Hm) us (numsD js i)) ⟨same_new hD1, [], upd_same, .nil⟩ ?_ ?_
  · rintro i Hm hi ⟨sm, us, em, um⟩
    have ei : (0 : Int) + (i : Int) = ((i : Nat) : Int) := by omega
    rw [ei]
    have hS5 := sameT sm hS
    refine ⟨rfl, yesIf ⟨_, rfl, ps, rfl, ⟨_, hS5⟩, fun D2 hD2 => ?_⟩⟩
    refine lc_tup (K := K) (a := ps) (xs := xs) (fun k Hk => Same Hm Hk ∧ ∃ ws, Hk D2 = some (.lst ws) ∧ DpAll K (hid D2 Hk) ws ((js.take k).map (lohiD ((i : Nat) : Int)))) ⟨same_new hD2, [], upd_same, .nil⟩ (fun _ _ _ z => sameT z.1 hS5) ?_ ?_
    · rintro k x Hk hx ⟨sk, ws, ek, uk⟩
      obtain ⟨d, hd, hv⟩ := hA.get hx
      unfold sharesD at hd
      rw [List.getElem?_map] at hd
      cases ej : js[k]? with
      | none => rw [ej] at hd; cases hd
      | some j =>
      rw [ej] at hd
      cases Option.some.inj hd
      have gp := G.part j (List.mem_of_getElem? ej)
      have lu : ws.length < sizeLine := by
        have h := uk.length
        rw [List.length_map, List.length_take] at h
        exact small1000 (by omega)
      refine ⟨rfl, yesIf ⟨_, rfl, _, rfl, x, j.2.1, j.2.2, _, rfl, (hv.mono sm).mono sk, gp, fun r H5 hr5 s5 e5 => ?_⟩⟩
      have nr : r ≠ D2 := (ne_of_none ek hr5).symm
      refine ⟨ws, s5 _ _ ek, lu, Same.app hD2 (sk.trans s5), _, upd_same, ?_⟩
      rw [map_take_succ _ ej]
      exact ((uk.mono (hid_same s5)).mono hid_put).snoc (.tup (SqT.of (by rw [hid_ne nr, upd_ne nr]; exact e5)) (.cons (.int _) (.cons (.int _) .nil)))
    · rintro Hk ⟨sk, ws, ek, uk⟩
      rw [lx, List.take_length] at uk
      have n12 : D2 ≠ D1 := (ne_of_none em hD2).symm
      have lu : us.length < sizeLine := by
        have h := um.length
        rw [List.length_map, List.length_range] at h
        exact small1000 (by omega)
      refine ⟨us, sk _ _ em, lu, Same.app hD1 (sm.trans sk), _, upd_same, ?_⟩
      rw [numsD, List.range_succ, List.map_append]
      refine ((um.mono (hid_same sk)).mono hid_put).snoc ?_
      refine .lst (SqL.of (by rw [hid_ne n12, upd_ne n12]; exact ek)) ?_
      exact (DpAll.imp (uk.mono hid_sub) fun d hd => dp_hideT (sk _ _ em) (by
        obtain ⟨j, _, rfl⟩ := List.mem_map.mp hd
        exact tup_pair _ _)).mono hid_put
  rintro H5 ⟨t5, us, em, um⟩
  replace bb := bb.trans (But.of_same t5)
  replace hS := sameT t5 hS
  replace hA := hA.mono t5
  replace hH := hH.mono t5
  replace hZ := t5.seq hZ
  replace z4 := z4.mono t5
  have hN : Dp K H5 (.ref D1) (.list (numsD js (hs.length + 1))) := .lst (SqL.of em) (um.mono hid_sub)
  have e5 := t5 _ _ e4
  clear hD1 em um us t5 etn
  obtain ⟨pn_, rs, en_, hNS, hNA⟩ := hN.list
  cases en_
  have lr : rs.length = hs.length + 1 := by rw [hNA.length, List.length_map, List.length_range]
  have rowAt : ∀ {Hm : Hp}, Same H5 Hm → ∀ (i : Nat) (x : V), rs[i]? = some x → i < hs.length + 1 ∧ ∃ (ra : Addr) (zs : List V), x = .ref ra ∧ SqL K Hm ra zs ∧ DpAll K Hm zs (js.map (lohiD ((i : Nat) : Int))) := fun {Hm} sm i x hx => by
    obtain ⟨d, hd, hv⟩ := hNA.get hx
    have il : i < hs.length + 1 := by rw [← lr]; exact (List.getElem?_eq_some_iff.mp hx).1
    rw [List.getElem?_map, List.getElem?_range il] at hd
    cases Option.some.inj hd
    obtain ⟨ra, zs, e, h1, h2⟩ := hv.list
    exact ⟨il, ra, zs, e, sm.seq h1, h2.mono sm⟩
  -- lows
  refine ⟨_, rfl, D1, rfl, ⟨_, hNS⟩, fun D3 hD3 => ?_⟩
  refine lc_list (K := K) (a := D1) (xs := rs) (fun i Hm => Same H5 Hm ∧ ∃ us, Hm D3 = some (.lst us) ∧ DpAll K (hid D3 Hm) us (rowsD js i)) ⟨same_new hD3, [], upd_same, .nil⟩ (fun _ _ _ z => z.1.seq hNS) ?_ ?_
  · rintro i x Hm hx ⟨sm, us, em, um⟩
    obtain ⟨il, ra, zs, rfl, hr1, hr2⟩ := rowAt sm i x hx
    have lz : zs.length = js.length := by rw [hr2.length, List.length_map]
    have lu : us.length < sizeLine := by
      have h := um.length
      rw [List.length_map, List.length_range] at h
      exact small1000 (by omega)
    refine ⟨rfl, yesIf ⟨_, rfl, ra, rfl, ⟨_, hr1⟩, fun D4 hD4 => ?_⟩⟩
    refine lc_list (K := K) (a := ra) (xs := zs) (fun k Hk => Same Hm Hk ∧ Hk D4 = some (.lst (((lowsR js i).take k).map V.int))) ⟨same_new hD4, upd_same⟩ (fun _ _ _ z => z.1.seq hr1) ?_ ?_
    · rintro k y Hk hy ⟨sk, ek⟩
      obtain ⟨d, hd, hv⟩ := hr2.get hy
      rw [List.getElem?_map] at hd
      cases ej : js[k]? with
      | none => rw [ej] at hd; cases hd
      | some j =>
      rw [ej] at hd
      cases Option.some.inj hd
      obtain ⟨ta, ws, rfl, ht1, ht2⟩ := hv.tuple
      obtain ⟨z1, z2, rfl, hz1, hz2⟩ := ht2.two
      cases hz1.int_eq
      cases hz2.int_eq
      refine ⟨ta, _, rfl, sameT sk ht1, rfl, _, _, rfl, _, _, rfl, rfl, rfl, yesIf ⟨_, rfl, _, ek, ?_, Same.app hD4 sk, ?_⟩⟩
      · rw [List.length_map, List.length_take]; unfold lowsR; rw [List.length_map]
        exact small1000 (by omega)
      · have ek2 : (lowsR js i)[k]? = some (lowI j.2.1 j.2.2 ((i : Nat) : Int)) := by unfold lowsR; rw [List.getElem?_map, ej]; rfl
        rw [upd_same, map_take_succ _ ek2]
    · rintro Hk ⟨sk, ek⟩
      have el : (lowsR js i).take zs.length = lowsR js i := List.take_of_length_le (by unfold lowsR; rw [List.length_map, lz]; exact Nat.le_refl _)
      rw [el] at ek
      have n12 : D4 ≠ D3 := (ne_of_none em hD4).symm
      refine ⟨us, sk _ _ em, lu, Same.app hD3 (sm.trans sk), _, upd_same, ?_⟩
      rw [rowsD, List.range_succ, List.map_append]
      refine ((um.mono (hid_same sk)).mono hid_put).snoc ?_
      exact .lst (SqL.of (by rw [hid_ne n12, upd_ne n12]; exact ek)) (DpAll.ints _)
  rintro H6 ⟨t6, us, em, um⟩
  rw [lr] at um
  replace bb := bb.trans (But.of_same t6)
  replace hS := sameT t6 hS
  replace hA := hA.mono t6
  replace hH := hH.mono t6
  replace hZ := t6.seq hZ
  replace z4 := z4.mono t6
  replace hNS := t6.seq hNS
  replace hNA := hNA.mono t6
  have hL : Dp K H6 (.ref D3) (.list (rowsD js (hs.length + 1))) := .lst (SqL.of em) (um.mono hid_sub)
  have e6 := t6 _ _ e5
  clear hD3 em um us t6 rowAt
  refine ⟨_, rfl, a, C, dx, _, rfl, e6, W.cl, W.nlows, by omega, ?_⟩
  have f5 := putF_len "lows" (.ref D3) F4
  have llows : (putF "lows" (.ref D3) F4).lookup ("lows" : Str) = some (.ref D3) := by rw [lookup_putF, if_pos rfl]
  have lticks : (putF "lows" (.ref D3) F4).lookup ("ticks" : Str) = some (.int (hs.length : Int)) := by rw [lookup_putF, if_neg (by decide +kernel)]; exact lticks
  have lmost : (putF "lows" (.ref D3) F4).lookup ("most" : Str) = some (.ref ph) := by rw [lookup_putF, if_neg (by decide +kernel)]; exact lmost
  have lsizes : (putF "lows" (.ref D3) F4).lookup ("sizes" : Str) = some (.ref pz) := by rw [lookup_putF, if_neg (by decide +kernel)]; exact lsizes
  have lparts : (putF "lows" (.ref D3) F4).lookup ("parts" : Str) = some (.ref pq) := by rw [lookup_putF, if_neg (by decide +kernel)]; exact lparts
  have lcrews : (putF "lows" (.ref D3) F4).lookup ("crews" : Str) = none := by rw [lookup_putF, if_neg (by decide +kernel)]; exact lcrews
  have lis_alive : (putF "lows" (.ref D3) F4).lookup ("is_alive" : Str) = none := by rw [lookup_putF, if_neg (by decide +kernel)]; exact lis_alive
  have lchoices : (putF "lows" (.ref D3) F4).lookup ("choices" : Str) = none := by rw [lookup_putF, if_neg (by decide +kernel)]; exact lchoices
  have lahead_behind : (putF "lows" (.ref D3) F4).lookup ("ahead_behind" : Str) = none := by rw [lookup_putF, if_neg (by decide +kernel)]; exact lahead_behind
  have lahead_before : (putF "lows" (.ref D3) F4).lookup ("ahead_before" : Str) = none := by rw [lookup_putF, if_neg (by decide +kernel)]; exact lahead_before
  have lnumbers_of : (putF "lows" (.ref D3) F4).lookup ("numbers_of" : Str) = none := by rw [lookup_putF, if_neg (by decide +kernel)]; exact lnumbers_of
  have b5 : But a H6 (upd H6 a (.ins C dx (putF "lows" (.ref D3) F4))) := But.set
  have e5 : (upd H6 a (.ins C dx (putF "lows" (.ref D3) F4))) a = some (.ins C dx (putF "lows" (.ref D3) F4)) := upd_same
  generalize upd H6 a (.ins C dx (putF "lows" (.ref D3) F4)) = H5 at b5 e5
  generalize putF "lows" (.ref D3) F4 = F5 at f5 e5 llows lticks lmost lsizes lparts lcrews lis_alive lchoices lahead_behind lahead_before lnumbers_of
  replace hS := sqt_but (e6) NoSeq.ins b5 hS
  replace hA := dpa_but (e6) NoSeq.ins b5 hA
  replace hH := seq_but (e6) NoSeq.ins b5 hH
  replace hZ := sql_but (e6) NoSeq.ins b5 hZ
  replace z4 := dp_but (e6) NoSeq.ins b5 z4
  replace hNS := sql_but (e6) NoSeq.ins b5 hNS
  replace hNA := dpa_but (e6) NoSeq.ins b5 hNA
  replace hL := dp_but (e6) NoSeq.ins b5 hL
  replace bb := bb.trans b5
  have rowAt : ∀ {Hm : Hp}, Same H5 Hm → ∀ (i : Nat) (x : V), rs[i]? = some x → i < hs.length + 1 ∧ ∃ (ra : Addr) (zs : List V), x = .ref ra ∧ SqL K Hm ra zs ∧ DpAll K Hm zs (js.map (lohiD ((i : Nat) : Int))) := fun {Hm} sm i x hx => by
    obtain ⟨d, hd, hv⟩ := hNA.get hx
    have il : i < hs.length + 1 := by rw [← lr]; exact (List.getElem?_eq_some_iff.mp hx).1
    rw [List.getElem?_map, List.getElem?_range il] at hd
    cases Option.some.inj hd
    obtain ⟨ra, zs, e, h1, h2⟩ := hv.list
    exact ⟨il, ra, zs, e, sm.seq h1, h2.mono sm⟩
  -- doubles
  refine ⟨_, rfl, D1, rfl, ⟨_, hNS⟩, fun D4 hD4 => ?_⟩
  refine lc_list (K := K) (a := D1) (xs := rs) (fun i Hm => Same H5 Hm ∧ Hm D4 = some (.lst (natV ((List.range i).map (doubN js))))) ⟨same_new hD4, upd_same⟩ (fun _ _ _ z => z.1.seq hNS) ?_ ?_
  · rintro i x Hm hx ⟨sm, em⟩
    obtain ⟨il, ra, zs, rfl, hr1, hr2⟩ := rowAt sm i x hx
    have lz : zs.length = js.length := by rw [hr2.length, List.length_map]
    refine ⟨rfl, yesIf ⟨_, rfl, ra, _, rfl, hr1, fun D5 hD5 => ?_⟩⟩
    refine lc_it walk_enum (fun k Hk => Same Hm Hk ∧ Hk D5 = some (.lst (natV (posL (fun j : Job => decide (lowI j.2.1 j.2.2 ((i : Nat) : Int) < highI j.2.1 j.2.2 ((i : Nat) : Int))) (js.take k) 0)))) ⟨same_new hD5, upd_same⟩ (fun k Hk _ z => z.1.seq hr1) ?_ ?_
    · rintro k y Hk Hk' hk ⟨sk, ek⟩ ⟨T, y1, z1, rfl, hT, rfl, ey, ez⟩
      dsimp only at ey ez
      cases ey
      obtain ⟨d, hd, hv⟩ := hr2.get ez
      rw [List.getElem?_map] at hd
      cases ej : js[k]? with
      | none => rw [ej] at hd; cases hd
      | some j =>
      rw [ej] at hd
      cases Option.some.inj hd
      obtain ⟨ta, ws, rfl, ht1, ht2⟩ := hv.tuple
      obtain ⟨u1, u2, rfl, hz1, hz2⟩ := ht2.two
      cases hz1.int_eq
      cases hz2.int_eq
      have sT : Same Hk (upd Hk T (.tup [.int (k : Int), .ref ta])) := same_new hT
      have eD := sT _ _ ek
      have sa := sk.trans sT
      have kl : k < js.length := (List.getElem?_eq_some_iff.mp ej).1
      have lt : (js.take k).length = k := by rw [List.length_take]; omega
      have et : js.take (k + 1) = js.take k ++ [j] := by rw [List.take_add_one, ej]; rfl
      refine ⟨T, _, rfl, SqT.of upd_same, rfl, _, _, rfl, _, _, rfl, ta, _, rfl, sameT sa ht1, rfl, _, _, rfl, _, _, rfl, rfl, rfl, rfl, ?_⟩
      refine ⟨_, rfl, _, rfl, _, _, rfl, rfl, _, rfl, ?_⟩
      refine ite2 (fun t => ?_) (fun t => ?_)
      · refine ⟨_, rfl, _, eD, ?_, Same.app hD5 sa, ?_⟩
        · refine small1000 ?_
          rw [List.length_map]
          exact Nat.le_trans (posL_len _ _ _) (by omega)
        · rw [upd_same, et, posL_snoc, lt, if_pos t, Nat.zero_add, natV, natV, List.map_append]; rfl
      · refine ⟨sa, ?_⟩
        rw [et, posL_snoc, if_neg t, List.append_nil]; exact eD
    · rintro Hk ⟨sk, ek⟩
      rw [lz, List.take_length] at ek
      have lp := posL_len (fun j : Job => decide (lowI j.2.1 j.2.2 ((i : Nat) : Int) < highI j.2.1 j.2.2 ((i : Nat) : Int))) js 0
      refine ⟨D5, _, rfl, SqL.of ek, by omega, fun m hm => ?_, fun H' s' => ⟨_, (sk.trans s') _ _ em, ?_, Same.app hD4 (sm.trans (sk.trans s')), ?_⟩⟩
      · have := posL_in _ _ _ m hm
        omega
      · rw [List.length_map, List.length_map, List.length_range]
        exact small1000 (by omega)
      · rw [upd_same, List.range_succ, List.map_append, natV, natV, List.map_append]; rfl
  rintro H7 ⟨t7, em⟩
  rw [lr] at em
  replace bb := bb.trans (But.of_same t7)
  replace hS := sameT t7 hS
  replace hA := hA.mono t7
  replace hH := hH.mono t7
  replace hZ := t7.seq hZ
  replace z4 := z4.mono t7
  replace hL := hL.mono t7
  have hD_ : SqL K H7 D4 (natV ((List.range (hs.length + 1)).map (doubN js))) := SqL.of em
  have e7 := t7 _ _ e5
  clear hD4 em t7 rowAt hNS hNA lr
  refine ⟨_, rfl, a, C, dx, _, rfl, e7, W.cl, W.ndoubles, by omega, ?_⟩
  have f6 := putF_len "doubles" (.ref D4) F5
  have ldoubles : (putF "doubles" (.ref D4) F5).lookup ("doubles" : Str) = some (.ref D4) := by rw [lookup_putF, if_pos rfl]
  have lticks : (putF "doubles" (.ref D4) F5).lookup ("ticks" : Str) = some (.int (hs.length : Int)) := by rw [lookup_putF, if_neg (by decide +kernel)]; exact lticks
  have lmost : (putF "doubles" (.ref D4) F5).lookup ("most" : Str) = some (.ref ph) := by rw [lookup_putF, if_neg (by decide +kernel)]; exact lmost
  have lsizes : (putF "doubles" (.ref D4) F5).lookup ("sizes" : Str) = some (.ref pz) := by rw [lookup_putF, if_neg (by decide +kernel)]; exact lsizes
  have lparts : (putF "doubles" (.ref D4) F5).lookup ("parts" : Str) = some (.ref pq) := by rw [lookup_putF, if_neg (by decide +kernel)]; exact lparts
  have llows : (putF "doubles" (.ref D4) F5).lookup ("lows" : Str) = some (.ref D3) := by rw [lookup_putF, if_neg (by decide +kernel)]; exact llows
  have lcrews : (putF "doubles" (.ref D4) F5).lookup ("crews" : Str) = none := by rw [lookup_putF, if_neg (by decide +kernel)]; exact lcrews
  have lis_alive : (putF "doubles" (.ref D4) F5).lookup ("is_alive" : Str) = none := by rw [lookup_putF, if_neg (by decide +kernel)]; exact lis_alive
  have lchoices : (putF "doubles" (.ref D4) F5).lookup ("choices" : Str) = none := by rw [lookup_putF, if_neg (by decide +kernel)]; exact lchoices
  have lahead_behind : (putF "doubles" (.ref D4) F5).lookup ("ahead_behind" : Str) = none := by rw [lookup_putF, if_neg (by decide +kernel)]; exact lahead_behind
  have lahead_before : (putF "doubles" (.ref D4) F5).lookup ("ahead_before" : Str) = none := by rw [lookup_putF, if_neg (by decide +kernel)]; exact lahead_before
  have lnumbers_of : (putF "doubles" (.ref D4) F5).lookup ("numbers_of" : Str) = none := by rw [lookup_putF, if_neg (by decide +kernel)]; exact lnumbers_of
  have b6 : But a H7 (upd H7 a (.ins C dx (putF "doubles" (.ref D4) F5))) := But.set
  have e6 : (upd H7 a (.ins C dx (putF "doubles" (.ref D4) F5))) a = some (.ins C dx (putF "doubles" (.ref D4) F5)) := upd_same
  generalize upd H7 a (.ins C dx (putF "doubles" (.ref D4) F5)) = H6 at b6 e6
  generalize putF "doubles" (.ref D4) F5 = F6 at f6 e6 ldoubles lticks lmost lsizes lparts llows lcrews lis_alive lchoices lahead_behind lahead_before lnumbers_of
  replace hS := sqt_but (e7) NoSeq.ins b6 hS
  replace hA := dpa_but (e7) NoSeq.ins b6 hA
  replace hH := seq_but (e7) NoSeq.ins b6 hH
  replace hZ := sql_but (e7) NoSeq.ins b6 hZ
  replace z4 := dp_but (e7) NoSeq.ins b6 z4
  replace hL := dp_but (e7) NoSeq.ins b6 hL
  replace hD_ := sql_but (e7) NoSeq.ins b6 hD_
  replace bb := bb.trans b6
  -- grown
  obtain ⟨pl_, ls, en_, hLS, hLA⟩ := hL.list
  cases en_
  have ll : ls.length = hs.length + 1 := by rw [hLA.length, List.length_map, List.length_range]
  refine ⟨_, rfl, a, C, dx, _, _, rfl, e6, W.cl, W.nlows, llows, _, rfl, a, C, dx, _, _, rfl, e6, W.cl, W.nlows, llows, _, rfl, D3, _, rfl, hLS, fun pc hpc => ?_⟩
  have ec : cutV ls (some 1) none = ls.drop 1 := cut_one (by omega)
  have s8 : Same H6 (upd H6 pc (.lst (cutV ls (some 1) none))) := same_new hpc
  have e8 : (upd H6 pc (.lst (cutV ls (some 1) none))) pc = some (.lst (ls.drop 1)) := by rw [upd_same, ec]
  revert s8 e8
  generalize upd H6 pc (.lst (cutV ls (some 1) none)) = H8
  intro s8 e8
  have hmin : hs.length = min ls.length (ls.drop 1).length := by rw [List.length_drop, ll]; omega
  have lowAt : ∀ {Hm : Hp}, Same H6 Hm → ∀ (i : Nat) (x : V), ls[i]? = some x → ∃ ra : Addr, x = .ref ra ∧ SqL K Hm ra ((lowsR js i).map V.int) := fun {Hm} sm i x hx => by
    obtain ⟨d, hd, hv⟩ := hLA.get hx
    have il : i < hs.length + 1 := by rw [← ll]; exact (List.getElem?_eq_some_iff.mp hx).1
    rw [List.getElem?_map, List.getElem?_range il] at hd
    cases Option.some.inj hd
    obtain ⟨ra, zs, e, h1, h2⟩ := hv.list
    rw [h2.ints_eq] at h1
    exact ⟨ra, e, sm.seq h1⟩
  refine ⟨D3, pc, ls, _, rfl, s8.seq hLS, SqL.of e8, fun D6 hD6 => ?_⟩
  refine lc_it (walk_zip hmin) (fun i Hm => Same H8 Hm ∧ Hm D6 = some (.lst (natV ((List.range i).map (growN js))))) ⟨same_new hD6, upd_same⟩ (fun i Hm _ z => ⟨(s8.trans z.1).seq hLS, SqL.of (z.1 _ _ e8)⟩) ?_ ?_
  · rintro i x Hm H' hi ⟨sm, em⟩ ⟨T, y, z, rfl, hT, rfl, ey, ez⟩
    dsimp only at ey ez
    rw [List.getElem?_drop, Nat.add_comm] at ez
    have sT : Same Hm (upd Hm T (.tup [y, z])) := same_new hT
    have sa := sm.trans sT
    obtain ⟨r1, rfl, h1⟩ := lowAt (s8.trans sa) i y ey
    obtain ⟨r2, rfl, h2⟩ := lowAt (s8.trans sa) (i + 1) z ez
    refine ⟨T, _, rfl, SqT.of upd_same, rfl, _, _, rfl, _, _, rfl, rfl, rfl, yesIf ?_⟩
    refine ⟨_, rfl, _, rfl, r1, r2, _, _, rfl, h1, h2, by unfold lowsR; rw [List.length_map, List.length_map], by unfold lowsR; rw [List.length_map]; exact l6, fun H' s' => ⟨_, s' _ _ (sT _ _ em), ?_, Same.app hD6 (sa.trans s'), ?_⟩⟩
    · rw [List.length_map, List.length_map, List.length_range]
      exact small1000 (by omega)
    · rw [upd_same, List.range_succ, List.map_append, natV, natV, List.map_append]; rfl
  rintro H9 ⟨t9, em⟩
  have t69 := s8.trans t9
  replace bb := bb.trans (But.of_same t69)
  replace hS := sameT t69 hS
  replace hA := hA.mono t69
  replace hH := hH.mono t69
  replace hZ := t69.seq hZ
  replace z4 := z4.mono t69
  replace hL := hL.mono t69
  replace hD_ := t69.seq hD_
  have hG_ : SqL K H9 D6 (natV ((List.range hs.length).map (growN js))) := SqL.of em
  have e9 := t69 _ _ e6
  clear hD6 em t9 s8 e8 hmin lowAt ll hLS hLA ec
  refine ⟨_, rfl, a, C, dx, _, rfl, e9, W.cl, W.ngrown, by omega, ?_⟩
  have f7 := putF_len "grown" (.ref D6) F6
  have lgrown : (putF "grown" (.ref D6) F6).lookup ("grown" : Str) = some (.ref D6) := by rw [lookup_putF, if_pos rfl]
  have lticks : (putF "grown" (.ref D6) F6).lookup ("ticks" : Str) = some (.int (hs.length : Int)) := by rw [lookup_putF, if_neg (by decide +kernel)]; exact lticks
  have lmost : (putF "grown" (.ref D6) F6).lookup ("most" : Str) = some (.ref ph) := by rw [lookup_putF, if_neg (by decide +kernel)]; exact lmost
  have lsizes : (putF "grown" (.ref D6) F6).lookup ("sizes" : Str) = some (.ref pz) := by rw [lookup_putF, if_neg (by decide +kernel)]; exact lsizes
  have lparts : (putF "grown" (.ref D6) F6).lookup ("parts" : Str) = some (.ref pq) := by rw [lookup_putF, if_neg (by decide +kernel)]; exact lparts
  have llows : (putF "grown" (.ref D6) F6).lookup ("lows" : Str) = some (.ref D3) := by rw [lookup_putF, if_neg (by decide +kernel)]; exact llows
  have ldoubles : (putF "grown" (.ref D6) F6).lookup ("doubles" : Str) = some (.ref D4) := by rw [lookup_putF, if_neg (by decide +kernel)]; exact ldoubles
  have lcrews : (putF "grown" (.ref D6) F6).lookup ("crews" : Str) = none := by rw [lookup_putF, if_neg (by decide +kernel)]; exact lcrews
  have lis_alive : (putF "grown" (.ref D6) F6).lookup ("is_alive" : Str) = none := by rw [lookup_putF, if_neg (by decide +kernel)]; exact lis_alive
  have lchoices : (putF "grown" (.ref D6) F6).lookup ("choices" : Str) = none := by rw [lookup_putF, if_neg (by decide +kernel)]; exact lchoices
  have lahead_behind : (putF "grown" (.ref D6) F6).lookup ("ahead_behind" : Str) = none := by rw [lookup_putF, if_neg (by decide +kernel)]; exact lahead_behind
  have lahead_before : (putF "grown" (.ref D6) F6).lookup ("ahead_before" : Str) = none := by rw [lookup_putF, if_neg (by decide +kernel)]; exact lahead_before
  have lnumbers_of : (putF "grown" (.ref D6) F6).lookup ("numbers_of" : Str) = none := by rw [lookup_putF, if_neg (by decide +kernel)]; exact lnumbers_of
  have b7 : But a H9 (upd H9 a (.ins C dx (putF "grown" (.ref D6) F6))) := But.set
  have e7 : (upd H9 a (.ins C dx (putF "grown" (.ref D6) F6))) a = some (.ins C dx (putF "grown" (.ref D6) F6)) := upd_same
  generalize upd H9 a (.ins C dx (putF "grown" (.ref D6) F6)) = H7 at b7 e7
  generalize putF "grown" (.ref D6) F6 = F7 at f7 e7 lgrown lticks lmost lsizes lparts llows ldoubles lcrews lis_alive lchoices lahead_behind lahead_before lnumbers_of
  replace hS := sqt_but (e9) NoSeq.ins b7 hS
  replace hA := dpa_but (e9) NoSeq.ins b7 hA
  replace hH := seq_but (e9) NoSeq.ins b7 hH
  replace hZ := sql_but (e9) NoSeq.ins b7 hZ
  replace z4 := dp_but (e9) NoSeq.ins b7 z4
  replace hL := dp_but (e9) NoSeq.ins b7 hL
  replace hD_ := sql_but (e9) NoSeq.ins b7 hD_
  replace hG_ := sql_but (e9) NoSeq.ins b7 hG_
  replace bb := bb.trans b7
  -- living
  have WF : WalkF K H7 F7 js hs := ⟨lticks, ⟨_, lmost, hH⟩, ⟨_, lsizes, hZ⟩, ⟨_, lparts, z4⟩, ⟨_, llows, hL⟩, ⟨_, ldoubles, hD_⟩, ⟨_, lgrown, hG_⟩⟩
  refine ⟨_, rfl, _, rfl, ps, _, rfl, .inr hS, a, dx, F7, js, hs, by rw [lx]; rfl, e7, WF, l6, lh, hm, fun pv_ G8 hpv t8 z8 => ?_⟩
  replace hS := sameT t8 hS
  replace hA := hA.mono t8
  replace hH := hH.mono t8
  replace hZ := t8.seq hZ
  replace z4 := z4.mono t8
  replace hL := hL.mono t8
  replace hD_ := t8.seq hD_
  replace hG_ := t8.seq hG_
  replace bb := bb.trans (But.of_same t8)
  have hV : SqL K G8 pv_ (natV (livL js hs)) := SqL.of z8
  refine ⟨_, rfl, a, C, dx, _, rfl, t8 _ _ e7, W.cl, W.nliving, by omega, ?_⟩
  have f8 := putF_len "living" (.ref pv_) F7
  have lliving : (putF "living" (.ref pv_) F7).lookup ("living" : Str) = some (.ref pv_) := by rw [lookup_putF, if_pos rfl]
  have lticks : (putF "living" (.ref pv_) F7).lookup ("ticks" : Str) = some (.int (hs.length : Int)) := by rw [lookup_putF, if_neg (by decide +kernel)]; exact lticks
  have lmost : (putF "living" (.ref pv_) F7).lookup ("most" : Str) = some (.ref ph) := by rw [lookup_putF, if_neg (by decide +kernel)]; exact lmost
  have lsizes : (putF "living" (.ref pv_) F7).lookup ("sizes" : Str) = some (.ref pz) := by rw [lookup_putF, if_neg (by decide +kernel)]; exact lsizes
  have lparts : (putF "living" (.ref pv_) F7).lookup ("parts" : Str) = some (.ref pq) := by rw [lookup_putF, if_neg (by decide +kernel)]; exact lparts
  have llows : (putF "living" (.ref pv_) F7).lookup ("lows" : Str) = some (.ref D3) := by rw [lookup_putF, if_neg (by decide +kernel)]; exact llows
  have ldoubles : (putF "living" (.ref pv_) F7).lookup ("doubles" : Str) = some (.ref D4) := by rw [lookup_putF, if_neg (by decide +kernel)]; exact ldoubles
  have lgrown : (putF "living" (.ref pv_) F7).lookup ("grown" : Str) = some (.ref D6) := by rw [lookup_putF, if_neg (by decide +kernel)]; exact lgrown
  have lcrews : (putF "living" (.ref pv_) F7).lookup ("crews" : Str) = none := by rw [lookup_putF, if_neg (by decide +kernel)]; exact lcrews
  have lis_alive : (putF "living" (.ref pv_) F7).lookup ("is_alive" : Str) = none := by rw [lookup_putF, if_neg (by decide +kernel)]; exact lis_alive
  have lchoices : (putF "living" (.ref pv_) F7).lookup ("choices" : Str) = none := by rw [lookup_putF, if_neg (by decide +kernel)]; exact lchoices
  have lahead_behind : (putF "living" (.ref pv_) F7).lookup ("ahead_behind" : Str) = none := by rw [lookup_putF, if_neg (by decide +kernel)]; exact lahead_behind
  have lahead_before : (putF "living" (.ref pv_) F7).lookup ("ahead_before" : Str) = none := by rw [lookup_putF, if_neg (by decide +kernel)]; exact lahead_before
  have lnumbers_of : (putF "living" (.ref pv_) F7).lookup ("numbers_of" : Str) = none := by rw [lookup_putF, if_neg (by decide +kernel)]; exact lnumbers_of
  have b8 : But a G8 (upd G8 a (.ins C dx (putF "living" (.ref pv_) F7))) := But.set
  have e8 : (upd G8 a (.ins C dx (putF "living" (.ref pv_) F7))) a = some (.ins C dx (putF "living" (.ref pv_) F7)) := upd_same
  generalize upd G8 a (.ins C dx (putF "living" (.ref pv_) F7)) = H8 at b8 e8
  generalize putF "living" (.ref pv_) F7 = F8 at f8 e8 lliving lticks lmost lsizes lparts llows ldoubles lgrown lcrews lis_alive lchoices lahead_behind lahead_before lnumbers_of
  replace hS := sqt_but (t8 _ _ e7) NoSeq.ins b8 hS
  replace hA := dpa_but (t8 _ _ e7) NoSeq.ins b8 hA
  replace hH := seq_but (t8 _ _ e7) NoSeq.ins b8 hH
  replace hZ := sql_but (t8 _ _ e7) NoSeq.ins b8 hZ
  replace z4 := dp_but (t8 _ _ e7) NoSeq.ins b8 z4
  replace hL := dp_but (t8 _ _ e7) NoSeq.ins b8 hL
  replace hD_ := sql_but (t8 _ _ e7) NoSeq.ins b8 hD_
  replace hG_ := sql_but (t8 _ _ e7) NoSeq.ins b8 hG_
  replace hV := sql_but (t8 _ _ e7) NoSeq.ins b8 hV
  replace bb := bb.trans b8
  exact q H8 bb ⟨dx, F8, e8, ⟨lticks, ⟨_, lmost, hH⟩, ⟨_, lsizes, hZ⟩, ⟨_, lparts, z4⟩, ⟨_, llows, hL⟩, ⟨_, ldoubles, hD_⟩, ⟨_, lgrown, hG_⟩⟩, ⟨_, lliving, hV⟩, lcrews, lis_alive, lchoices, lahead_behind, lahead_before, lnumbers_of⟩
end
end Ts
namespace Ts
open PySem PySem.Spec PyProof.Rows L2
section
variable {P : Program} {w : World} {K : PySem.W.Frag} {mg : Str → Option Value} {base : Heap}
theorem ok_alive {C f : Addr} {fd : FuncData} (F : Fun K "is_alive" "Walk.is_alive" s_Walk_is_alive f fd) (W : WalkC K mg C) : FnOk P w K mg base CX0 1 f fd ["self", "moment", "ahead"] (spAlive K C) := by
  refine F.ok sc_Walk_is_alive (fun vs H Q E h => ?_) (fun cdv A outer s H vs Q E hr h => ?_)
  · obtain ⟨a, m, c, js, hs, rfl, _⟩ := h; rfl
  obtain ⟨a, m, c, js, hs, rfl, WA, hm, q⟩ := h
  refine ⟨_, (pss_one (ps_ret (pe_cmpR op_eq (pe_op op_and (pe_op op_shr (pe_ix ix_list (pe_fld (pv 0) rfl) (pv 1) (fun _ _ => rfl)) (pv 2)) pe_int) pe_int (nomark _)))), ?_⟩
  obtain ⟨dx, fs, ha, WF, ⟨pv_, lv, hv⟩, _⟩ := WA.ex
  have hl : m < (livL js hs).length := by rw [liv_len]; omega
  refine ⟨_, rfl, a, C, dx, fs, _, rfl, ha, W.cl, W.nliving, lv, _, rfl, pv_, _, _, _, rfl, rfl, hv, atI_nat (getD_at hl), _, rfl, _, _, rfl, rfl, by omega, _, _, rfl, rfl, rfl, ?_⟩
  have ex : Builtin.bitAnd ((((livL js hs).getD m 0 : Nat) : Int) / 2 ^ ((c : Int)).toNat) 1 = (((livL js hs).getD m 0 / 2 ^ c % 2 : Nat) : Int) := by
    rw [shr_nat, show (1 : Int) = ((1 : Nat) : Int) from rfl, and_nat, Nat.and_one_is_mod]
  have e : decide (V.int (Builtin.bitAnd ((((livL js hs).getD m 0 : Nat) : Int) / 2 ^ ((c : Int)).toNat) 1) = V.int 1) = aliveB js hs m c := by
    unfold aliveB
    exact decide_eq_decide.mpr ⟨fun z => by have := V.int.inj z; rw [ex] at this; omega, fun z => by rw [ex, z]; rfl⟩
  exact (congrArg (fun b => Q (V.bl b) H) e).mpr q
theorem ok_crews {C f : Addr} {fd : FuncData} (F : Fun K "crews" "Walk.crews" s_Walk_crews f fd) (W : WalkC K mg C) : FnOk P w K mg base CX0 1 f fd ["self", "moment", "ahead"] (spCrews K C) := by
  refine F.ok sc_Walk_crews (fun vs H Q E h => ?_) (fun cdv A outer s H vs Q E hr h => ?_)
  · obtain ⟨a, m, c, js, hs, rfl, _⟩ := h; rfl
  obtain ⟨a, m, c, js, hs, rfl, WA, l6, hm, q⟩ := h
  refine ⟨_, (pss_cons (ps_set (i := 3) sc_Walk_crews.nd rfl (.inl rfl) (pe_ix ix_list (pe_fld (pv 0) rfl) (pv 1) (fun _ _ => rfl)))
      (pss_cons (ps_set (i := 4) sc_Walk_crews.nd rfl (.inr rfl) (pe_op op_and (pv 3) (pe_un un_inv (pv 2))))
      (pss_cons (ps_set (i := 5) sc_Walk_crews.nd rfl (.inl rfl) (pe_op op_and (pe_ix ix_list (pe_fld (pv 0) rfl) (pe_op op_add (pv 1) pe_int) (fun _ _ => rfl)) (pe_un un_inv (pe_op op_xor (pv 3) (pv 2)))))
      (pss_cons (ps_set (i := 6) sc_Walk_crews.nd rfl (.inr rfl) (pe_op op_sub (pe_ix ix_seq (pe_fld (pv 0) rfl) (pv 1) (fun _ _ => rfl)) (pe_ix ix_list (pe_fld (pv 0) rfl) (pv 4) (fun _ _ => rfl))))
      (pss_one (ps_ret (pe_lc (own := [("part", 7)]) rfl sc_Walk_crews.nd (pi_list (pe_ix ix_list (pe_fld (pv 0) rfl) (pv 5) (fun _ _ => rfl))) (blkOk_by (N := ["self", "moment", "ahead", "grown", "needed", "free", "room", "part"]) (sc := defScope s_Walk_crews) (own := [("part", 7)]) (by decide +kernel)) (fun _ _ _ _ _ => (pg_name (i := 7) sc_Walk_crews.nd rfl (.inl rfl) (.inr rfl))) (fun _ _ _ _ _ => (pts_one (pt_cmpR op_le (pe_ix (ixL (K := K) rfl) (pe_fldK (K := K) rfl (pv 0) rfl) (pv 7) (fun _ _ => rfl)) (pv 6) (nomark _)))) (fun _ _ _ _ _ => (pe_op op_add (pv 4) (pv 7)))))))))), ?_⟩
  obtain ⟨dx, fs, ha, WF, _⟩ := WA.ex
  obtain ⟨pd, fd_, hd_⟩ := WF.doubles
  obtain ⟨pg, fg_, hg_⟩ := WF.grown
  obtain ⟨pm, fm_, hm_⟩ := WF.most
  obtain ⟨pz, fz_, hz_⟩ := WF.sizes
  obtain ⟨vp, fp_, hp_⟩ := WF.parts
  obtain ⟨pp, ps, rfl, hpS, hpA⟩ := hp_.list
  have lps : ps.length = (subsN js.length).length := by rw [hpA.length, List.length_map]
  have n1 := need_le (growN js m) c
  have n2 := grown_lt js m
  have n3 := need_le (doubN js (m + 1)) (xorN (growN js m) c)
  have n4 := doub_lt js (m + 1)
  have g1 : m < ((List.range hs.length).map (growN js)).length := by rw [List.length_map, List.length_range]; exact hm
  have d1 : m + 1 < ((List.range (hs.length + 1)).map (doubN js)).length := by rw [List.length_map, List.length_range]; omega
  have z1 : needN (growN js m) c < (sizesN js.length).length := by rw [sizes_len]; omega
  have f1 : needN (doubN js (m + 1)) (xorN (growN js m) c) < (subsN js.length).length := by rw [subs_len]; omega
  have e1 := getD_at g1
  rw [getD_range _ hm] at e1
  have e2 := getD_at d1
  rw [getD_range _ (by omega)] at e2
  have l64 : 2 ^ js.length ≤ 64 := Nat.le_trans (Nat.pow_le_pow_right (by decide) l6) (by decide)
  -- grown, needed
  refine ⟨_, rfl, a, C, dx, fs, _, rfl, ha, W.cl, W.ngrown, fg_, _, rfl, pg, _, _, _, rfl, rfl, hg_, atI_nat e1, ?_⟩
  refine ⟨_, rfl, _, rfl, _, rfl, _, _, rfl, rfl, ?_⟩
  dsimp only
  rw [and_not]
  -- free
  refine ⟨_, rfl, a, C, dx, fs, _, rfl, ha, W.cl, W.ndoubles, fd_, _, rfl, _, _, rfl, rfl, pd, _, _, _, rfl, rfl, hd_, at_of (by omega) e2, _, rfl, _, rfl, _, _, rfl, rfl, _, rfl, _, _, rfl, rfl, ?_⟩
  dsimp only
  rw [xor_nat, and_not]
  -- room
  have ixm : ∀ R : VK, R (V.int ((hs.getD m 0 : Nat) : Int)) H → rIx K (V.ref pm) (V.int ((m : Nat) : Int)) H R := fun R r => by
    rcases hm_ with z | z
    · exact .inl ⟨pm, _, _, _, rfl, rfl, z, atI_nat (getD_at hm), r⟩
    · exact .inr (.inl ⟨pm, _, _, _, rfl, rfl, z, atI_nat (getD_at hm), r⟩)
  refine ⟨_, rfl, a, C, dx, fs, _, rfl, ha, W.cl, W.nmost, fm_, _, rfl, ixm _ ?_⟩
  refine ⟨_, rfl, a, C, dx, fs, _, rfl, ha, W.cl, W.nsizes, fz_, _, rfl, pz, _, _, _, rfl, rfl, hz_, atI_nat (getD_at z1), _, _, rfl, rfl, ?_⟩
  -- the list
  obtain ⟨d, hd, hv⟩ := hpA.get (i := needN (doubN js (m + 1)) (xorN (growN js m) c)) (v := ps[needN (doubN js (m + 1)) (xorN (growN js m) c)]'(by omega)) (List.getElem?_eq_getElem _)
  have epx : ps[needN (doubN js (m + 1)) (xorN (growN js m) c)]? = some (ps[needN (doubN js (m + 1)) (xorN (growN js m) c)]'(by omega)) := List.getElem?_eq_getElem _
  rw [List.getElem?_map, List.getElem?_eq_getElem f1] at hd
  cases Option.some.inj hd
  obtain ⟨wa, ew, hw⟩ := Dp.nats hv
  rw [ew] at epx
  obtain ⟨wl, wb⟩ := subs_in js.length _ (List.getElem_mem f1)
  unfold crewsN at q
  rw [show (subsN js.length).getD (needN (doubN js (m + 1)) (xorN (growN js m) c)) [] = (subsN js.length)[needN (doubN js (m + 1)) (xorN (growN js m) c)] by rw [List.getD_eq_getElem?_getD, List.getElem?_eq_getElem f1]; rfl] at q
  revert hw wl wb q
  generalize (subsN js.length)[needN (doubN js (m + 1)) (xorN (growN js m) c)] = wn
  intro q hw wl wb
  refine ⟨_, rfl, a, C, dx, fs, _, rfl, ha, W.cl, W.nparts, fp_, _, rfl, pp, _, _, _, rfl, rfl, hpS, atI_nat epx, wa, rfl, ⟨_, hw⟩, fun D2 hD2 => ?_⟩
  refine lc_list (K := K) (a := wa) (xs := natV wn) (fun k Hk => Same H Hk ∧ Hk D2 = some (.lst (natV (((wn.take k).filter fun p => decide ((sizesN js.length).getD p 0 + (sizesN js.length).getD (needN (growN js m) c) 0 ≤ hs.getD m 0)).map (needN (growN js m) c + ·))))) ⟨same_new hD2, upd_same⟩ (fun _ _ _ z => z.1.seq hw) ?_ ?_
  · rintro k y Hk hy ⟨sk, ek⟩
    rw [List.getElem?_map] at hy
    cases em : wn[k]? with
    | none => rw [em] at hy; cases hy
    | some p =>
    rw [em] at hy
    cases Option.some.inj hy
    have pb := wb p (List.mem_of_getElem? em)
    have z2 : p < (sizesN js.length).length := by rw [sizes_len]; exact pb
    refine ⟨rfl, _, rfl, a, C, dx, fs, _, rfl, sk _ _ ha, W.cl, W.nsizes, fz_, _, rfl, pz, _, _, _, rfl, rfl, sk.seq hz_, atI_nat (getD_at z2), _, rfl, _, _, rfl, rfl, _, rfl, ?_⟩
    have e9 : decide (((sizesN js.length).getD p 0 : Int) ≤ ((hs.getD m 0 : Nat) : Int) - (((sizesN js.length).getD (needN (growN js m) c) 0 : Nat) : Int)) = decide ((sizesN js.length).getD p 0 + (sizesN js.length).getD (needN (growN js m) c) 0 ≤ hs.getD m 0) := decide_eq_decide.mpr (by omega)
    dsimp only
    rw [e9]
    refine ite2 (fun t => ?_) (fun t => ?_)
    · refine ⟨_, rfl, _, rfl, _, _, rfl, rfl, _, ek, ?_, Same.app hD2 sk, ?_⟩
      · rw [List.length_map, List.length_map]
        refine small1000 (Nat.le_trans (List.length_filter_le _ _) ?_)
        rw [List.length_take]; omega
      · rw [upd_same, filter_take_succ _ em, if_pos t, List.map_append, natV, natV, List.map_append]
        show some (HO.lst (_ ++ [V.int (((needN (growN js m) c : Nat) : Int) + ((p : Nat) : Int))])) = _
        rw [← Int.natCast_add]; rfl
    · refine ⟨sk, ?_⟩
      rw [filter_take_succ _ em, if_neg t, List.append_nil]; exact ek
  · rintro Hk ⟨sk, ek⟩
    rw [List.length_map, List.take_length] at ek
    exact q D2 Hk hD2 sk ek
theorem ok_choicesW {C f : Addr} {fd : FuncData} (F : Fun K "choices" "Walk.choices" s_Walk_choices f fd) (W : WalkC K mg C) (m_crews : HasD P w K mg base 1 C "crews" ["self", "moment", "ahead"] (spCrews K C)) : FnOk P w K mg base CX0 2 f fd ["self", "moment", "ahead"] (spChoicesW K C) := by
  refine F.ok sc_Walk_choices (fun vs H Q E h => ?_) (fun cdv A outer s H vs Q E hr h => ?_)
  · obtain ⟨a, m, c, js, hs, rfl, _⟩ := h; rfl
  obtain ⟨a, m, c, js, hs, rfl, WA, l6, hm, q⟩ := h
  refine ⟨_, (pss_cons (ps_set (i := 3) sc_Walk_choices.nd rfl (.inr rfl) (pe_ix ix_list (pe_fld (pv 0) rfl) (pe_op op_add (pv 1) pe_int) (fun _ _ => rfl)))
      (pss_cons (ps_set (i := 4) sc_Walk_choices.nd rfl (.inr rfl) (pe_op op_sub (pv 2) (pe_ix ix_list (pe_fld (pv 0) rfl) (pv 1) (fun _ _ => rfl))))
      (pss_one (ps_ret (pe_lc (own := [("crew", 5)]) rfl sc_Walk_choices.nd (pi_list (pe_hd m_crews W.cl (hr.mono (by decide)) (pv 0) (pa_cons (pv 1) (pa_cons (pv 2) pa_nil)))) (blkOk_by (N := ["self", "moment", "ahead", "living", "shift", "crew"]) (sc := defScope s_Walk_choices) (own := [("crew", 5)]) (by decide +kernel)) (fun _ _ _ _ _ => (pg_name (i := 5) sc_Walk_choices.nd rfl (.inl rfl) (.inr rfl))) (fun _ _ _ _ _ => (pts_one (pt_truI (pe_op op_and (pe_op op_shr (pv 3) (pe_op op_add (pv 4) (pv 5))) pe_int)))) (fun _ _ _ _ _ => (pv 5))))))), ?_⟩
  obtain ⟨dx, fs, ha, WF, ⟨pv_, lv, hv⟩, lcr, _⟩ := id WA.ex
  obtain ⟨pg, fg_, hg_⟩ := WF.grown
  have hl : m + 1 < (livL js hs).length := by rw [liv_len]; omega
  have g1 : m < ((List.range hs.length).map (growN js)).length := by rw [List.length_map, List.length_range]; exact hm
  have e1 := getD_at g1
  rw [getD_range _ hm] at e1
  refine ⟨_, rfl, a, C, dx, fs, _, rfl, ha, W.cl, W.nliving, lv, _, rfl, _, _, rfl, rfl, pv_, _, _, _, rfl, rfl, hv, at_of (by omega) (getD_at hl), ?_⟩
  refine ⟨_, rfl, _, rfl, a, C, dx, fs, _, rfl, ha, W.cl, W.ngrown, fg_, _, rfl, pg, _, _, _, rfl, rfl, hg_, atI_nat e1, _, _, rfl, rfl, ?_⟩
  refine ⟨_, rfl, a, dx, fs, rfl, ha, lcr, _, rfl, _, rfl, a, m, c, js, hs, rfl, WA, l6, hm, fun p H1 hp s1 e1 => ?_⟩
  have cl := crews_len (js := js) (hs := hs) (m := m) (a := c) l6
  have ci := crews_in (js := js) (hs := hs) (m := m) (a := c)
  unfold choicesN at q
  revert cl ci q e1
  generalize crewsN js hs m c = cs
  intro q e1 cl ci
  refine ⟨p, rfl, ⟨_, SqL.of e1⟩, fun D2 hD2 => ?_⟩
  refine lc_list (K := K) (a := p) (xs := natV cs) (fun k Hk => Same H1 Hk ∧ Hk D2 = some (.lst (natV ((cs.take k).filter fun x => (livL js hs).getD (m + 1) 0 / 2 ^ (c + x - growN js m) % 2 == 1)))) ⟨same_new hD2, upd_same⟩ (fun _ _ _ z => z.1.seq (SqL.of e1)) ?_ ?_
  · rintro k y Hk hy ⟨sk, ek⟩
    rw [List.getElem?_map] at hy
    cases em : cs[k]? with
    | none => rw [em] at hy; cases hy
    | some x =>
    rw [em] at hy
    cases Option.some.inj hy
    obtain ⟨x1, _⟩ := ci x (List.mem_of_getElem? em)
    have ex : ((c : Nat) : Int) - ((growN js m : Nat) : Int) + ((x : Nat) : Int) = ((c + x - growN js m : Nat) : Int) := by omega
    refine ⟨rfl, _, rfl, _, rfl, _, rfl, _, _, rfl, rfl, _, _, rfl, rfl, ?_⟩
    dsimp only
    rw [ex]
    refine ⟨by omega, _, _, rfl, rfl, _, rfl, ?_⟩
    rw [shr_nat, odd_test]
    have e9 : decide ((livL js hs).getD (m + 1) 0 / 2 ^ (c + x - growN js m) % 2 = 1) = ((livL js hs).getD (m + 1) 0 / 2 ^ (c + x - growN js m) % 2 == 1) := by
      generalize (livL js hs).getD (m + 1) 0 / 2 ^ (c + x - growN js m) = z
      have : z % 2 = 0 ∨ z % 2 = 1 := by omega
      rcases this with t | t <;> rw [t] <;> rfl
    rw [e9]
    refine ite2 (fun t => ?_) (fun t => ?_)
    · refine ⟨_, rfl, _, ek, ?_, Same.app hD2 sk, ?_⟩
      · rw [List.length_map]
        refine small1000 (Nat.le_trans (List.length_filter_le _ _) ?_)
        rw [List.length_take]; omega
      · rw [upd_same, filter_take_succ _ em, if_pos t, natV, natV, List.map_append]; rfl
    · refine ⟨sk, ?_⟩
      rw [filter_take_succ _ em, if_neg t, List.append_nil]; exact ek
  · rintro Hk ⟨sk, ek⟩
    rw [List.length_map, List.take_length] at ek
    exact q D2 Hk (s1.free hD2) (s1.trans sk) ek
end
end Ts
namespace Ts
open PySem PySem.Spec PyProof.Rows L2
section
variable {P : Program} {w : World} {K : PySem.W.Frag} {mg : Str → Option Value} {base : Heap}
theorem ok_behind {C f : Addr} {fd : FuncData} (F : Fun K "ahead_behind" "Walk.ahead_behind" s_Walk_ahead_behind f fd) (W : WalkC K mg C) : FnOk P w K mg base CX0 1 f fd ["self", "moment", "ahead", "crew"] (spBehind K C) := by
  refine F.ok sc_Walk_ahead_behind (fun vs H Q E h => ?_) (fun cdv A outer s H vs Q E hr h => ?_)
  · obtain ⟨a, m, x, c, js, hs, rfl, _⟩ := h; rfl
  obtain ⟨a, m, x, c, js, hs, rfl, WA, hm, hg, q⟩ := h
  refine ⟨_, (pss_one (ps_ret (pe_op op_sub (pe_op op_add (pv 2) (pv 3)) (pe_ix ix_list (pe_fld (pv 0) rfl) (pv 1) (fun _ _ => rfl))))), ?_⟩
  obtain ⟨dx, fs, ha, WF, _⟩ := WA.ex
  obtain ⟨pg, fg_, hg_⟩ := WF.grown
  have g1 : m < ((List.range hs.length).map (growN js)).length := by rw [List.length_map, List.length_range]; exact hm
  have e1 := getD_at g1
  rw [getD_range _ hm] at e1
  refine ⟨_, rfl, _, rfl, _, _, rfl, rfl, _, rfl, a, C, dx, fs, _, rfl, ha, W.cl, W.ngrown, fg_, _, rfl, pg, _, _, _, rfl, rfl, hg_, atI_nat e1, _, _, rfl, rfl, ?_⟩
  have ex : ((x : Nat) : Int) + ((c : Nat) : Int) - ((growN js m : Nat) : Int) = ((x + c - growN js m : Nat) : Int) := by omega
  show Q (V.int (((x : Nat) : Int) + ((c : Nat) : Int) - ((growN js m : Nat) : Int))) H
  rw [ex]
  exact q
end
end Ts
namespace Ts
open PySem PySem.Spec PyProof.Rows L2 L2H LamX
section
variable {P : Program} {w : World} {K : PySem.W.Frag} {mg : Str → Option Value} {base : Heap}
theorem has_is_number_fromA (D : DefAt K mg "is_number_from" s_is_number_from) (B : Blt0 mg) : Has P w K mg base 1 "is_number_from" ["value", "low"] (spIsNumberFromA K) := by
  refine D.has (fun _ _ _ _ _ _ us hl => match us, hl with | [_, _], _ => rfl) fun f fd F => F.ok sc_is_number_from (fun vs H Q E h => ?_) (fun cdv A outer s H vs Q E hr h => ?_)
  · obtain ⟨v, lo, o, rfl, _⟩ := h; rfl
  obtain ⟨v, lo, o, rfl, hv, q⟩ := h
  refine ⟨_, (pss_one (ps_ret (pe_and (pe_callB call_isi (by rfl) B.zisinstance (by decide +kernel) (pa_cons (pv 0) (pa_cons (pe_ty "int" B.zint) pa_nil))) (pe_and (pe_not (pe_callB call_isi (by rfl) B.zisinstance (by decide +kernel) (pa_cons (pv 0) (pa_cons (pe_ty "bool" B.zbool) pa_nil)))) (pe_one (pe_cmpR op_le (pv 1) (pv 0) (nomark _))))))), ?_⟩
  cases o with
  | some i =>
    cases hv
    refine ⟨_, rfl, _, _, _, _, _, rfl, .ty "int", .base (.int i), kit_ty (r := true) (by decide +kernel), true, rfl, ?_⟩
    refine iteT ⟨_, rfl, _, _, _, _, _, rfl, .ty "bool", .base (.int i), kit_ty (r := false) (by decide +kernel), false, rfl, true, rfl, ?_⟩
    exact iteT ⟨_, rfl, _, rfl, _, _, rfl, rfl, q⟩
  | none =>
    obtain ⟨T, hT, ht⟩ := hv
    by_cases tb : T = "bool"
    · subst tb
      refine ⟨_, rfl, _, _, _, _, _, rfl, .ty "int", ht, kit_ty (r := true) (by decide +kernel), true, rfl, ?_⟩
      exact iteT ⟨_, rfl, _, _, _, _, _, rfl, .ty "bool", ht, kit_ty (r := true) (by decide +kernel), true, rfl, false, rfl, iteF q⟩
    · have k : PySem.W.kitOne K (.type T) (.type "int") = some false := by
        have go : ∀ T ∈ ["bool", "str", "NoneType", "list", "tuple", "dict"], T ≠ "bool" → kitB T "int" = some false := by decide +kernel
        exact kit_ty (go T hT tb)
      exact ⟨_, rfl, _, _, _, _, _, rfl, .ty "int", ht, k, false, rfl, iteF q⟩
theorem has_is_numberA (D : DefAt K mg "is_number" s_is_number) (B : Blt0 mg) (h_is_number_from : Has P w K mg base 1 "is_number_from" ["value", "low"] (spIsNumberFromA K)) : Has P w K mg base 2 "is_number" ["value", "low", "high"] (spIsNumberA K) := by
  refine D.has (fun _ _ _ _ _ _ us hl => match us, hl with | [_, _, _], _ => rfl) fun f fd F => F.ok sc_is_number (fun vs H Q E h => ?_) (fun cdv A outer s H vs Q E hr h => ?_)
  · obtain ⟨v, lo, hi, o, rfl, _⟩ := h; rfl
  obtain ⟨v, lo, hi, o, rfl, hv, q⟩ := h
  refine ⟨_, (pss_one (ps_ret (pe_and (pe_h h_is_number_from (hr.mono (by decide)) (pa_cons (pv 0) (pa_cons (pv 1) pa_nil))) (pe_one (pe_cmpR op_le (pv 0) (pv 2) (nomark _)))))), ?_⟩
  refine ⟨_, rfl, _, rfl, v, lo, o, rfl, hv, ?_⟩
  cases o with
  | none => exact ⟨false, rfl, iteF q⟩
  | some i =>
    cases hv
    refine ⟨decide (lo ≤ i), rfl, ite2 (fun c => ?_) (fun c => ?_)⟩
    · refine ⟨_, rfl, _, rfl, _, _, rfl, rfl, ?_⟩
      have e : decide (i ≤ hi) = inRg (some i) lo hi := by
        have := of_decide_eq_true c
        show decide (i ≤ hi) = decide (lo ≤ i ∧ i ≤ hi)
        by_cases z : i ≤ hi <;> simp [z, this]
      rw [← e] at q
      exact q
    · have e : inRg (some i) lo hi = false := decide_eq_false fun z => c (decide_eq_true z.1)
      rw [e] at q; exact q
end
end Ts
namespace Ts
open PySem PySem.Spec PyProof.Rows L2 L2H LamX
section
variable {P : Program} {w : World} {K : PySem.W.Frag} {mg : Str → Option Value} {base : Heap}
theorem hx_check_lot {C CL : Addr} (D : DefAt K mg "check_lot" s_check_lot) (B : Blt mg) (T : LotC K mg C) (I : LotI K C) (Z : LotNo K C) (T_NotALot : ErrB P w K mg base "NotALot" CL "given") : HasX P w K mg base 3 "check_lot" ["lot"] (spCheckLotX K C CL) := by
  refine D.hasX (fun _ _ _ _ _ _ us hl => match us, hl with | [_], _ => rfl) fun f fd F => F.okX sc_check_lot (fun vs H Q E h => ?_) (fun cdv A outer s H vs Q E hr h => ?_)
  · obtain ⟨v, o, rfl, _⟩ := h; rfl
  obtain ⟨v, o, rfl, hv, q1, q2⟩ := h
  have tk := takes_of (X := cxOf (L2.CX P w) P w K mg base ["lot"] "check_lot" (defScope s_check_lot) f cdv A outer s H E) (E := E) rfl rfl rfl rfl
  refine ⟨_, (pss_one (ps_if (pt_not (pt_val (pe_callB call_isi (by rfl) B.zisinstance (by decide +kernel) (pa_cons (pv 0) (pa_cons (pe_gref T.mgC) pa_nil))))) (pss_one (ps_raise rfl tk (pmk_errB T_NotALot (hr.mono (by decide)) (pv 0)))) pss_nil)), ?_⟩
  cases o with
  | some p =>
    obtain ⟨a, rfl, L⟩ := hv
    obtain ⟨dx, pn, ps, pt, ha, h1, h2, h3⟩ := L.ex
    exact ⟨_, rfl, _, _, _, _, _, rfl, .own C, .base (.ins ha T.cl I.ha I.hn I.htk I.hm), kit_self, true, rfl, iteF (q1 rfl)⟩
  | none =>
    obtain ⟨T9, hT, ht⟩ := hv
    exact ⟨_, rfl, _, _, _, _, _, rfl, .own C, ht, Z.no _ hT, false, rfl, iteT ⟨_, rfl, mk_err fun d hd => q2 rfl H d (fun _ _ z => z) hd⟩⟩
end
end Ts
namespace Ts
open PySem PySem.Spec PyProof.Rows L2
section
variable {P : Program} {w : World} {K : PySem.W.Frag} {mg : Str → Option Value} {base : Heap}
theorem hx_check_counts {C : Addr} (D : DefAt K mg "check_counts" s_check_counts) (B : Blt0 mg) (MC : ∃ t, mg "MOST_COUNTS" = some (.int 60 t)) (MH : ∃ t, mg "MOST_HANDS" = some (.int 6 t)) (T_InvalidCounts : ErrB P w K mg base "InvalidCounts" C "index") (h_is_number : Has P w K mg base 2 "is_number" ["value", "low", "high"] (spIsNumberA K)) : HasX P w K mg base 3 "check_counts" ["counts"] (spCheckCountsS K C) := by
  refine D.hasX (fun _ _ _ _ _ _ us hl => match us, hl with | [_], _ => rfl) fun f fd F => F.okX sc_check_counts (fun vs H Q E h => ?_) (fun cdv A outer s H vs Q E hr h => ?_)
  · obtain ⟨v, t, rfl, _⟩ := h; rfl
  obtain ⟨v, t, rfl, hv, q1, q2⟩ := h
  have tk := takes_of (X := cxOf (L2.CX P w) P w K mg base ["counts", "index", "number"] "check_counts" (defScope s_check_counts) f cdv A outer s H E) (E := E) rfl rfl rfl rfl
  refine ⟨_, (pss_cons (ps_if (PW.pt (pw_or (pt_not (pt_val (pe_callB call_isi (by rfl) B.zisinstance (by decide +kernel) (pa_cons (pv 0) (pa_cons (pe_ty "tuple" B.ztuple) pa_nil))))) (pw_or1 (pt_cmpR op_eq (pe_callB call_len_seq (by rfl) B.zlen (by decide +kernel) (pa_cons (pv 0) pa_nil)) pe_int (nomark _))))) (pss_one (ps_raise rfl tk (pmk_errB T_InvalidCounts (hr.mono (by decide)) pe_non))) pss_nil)
      (pss_one (ps_for (passes_of rfl) rfl (pi_enumT (by rfl) B.zenumerate (pa_cons (pv 0) pa_nil)) (pg_tup rfl (pgs_cons (pg_name (i := 1) sc_check_counts.nd rfl (.inl rfl)) (pgs_cons (pg_name (i := 2) sc_check_counts.nd rfl (.inl rfl)) pgs_nil))) (pss_one (ps_if (PW.pt (pw_or (pt_cmpR op_ge (pv 1) (pe_gint MC) (nomark _)) (pw_or1 (pt_not (pt_val (pe_h h_is_number (hr.mono (by decide)) (pa_cons (pv 2) (pa_cons pe_int (pa_cons (pe_gint MH) pa_nil))))))))) (pss_one (ps_raise rfl tk (pmk_errB T_InvalidCounts (hr.mono (by decide)) (pv 1)))) pss_nil))))), ?_⟩
  cases t with
  | none =>
    obtain ⟨T, hT, ht⟩ := hv
    have k : PySem.W.kitOne K (.type T) (.type "tuple") = some false := by
      have go : ∀ T ∈ ["int", "bool", "str", "NoneType", "list", "dict"], kitB T "tuple" = some false := by decide +kernel
      exact kit_ty (go T hT)
    exact ⟨_, rfl, _, _, _, _, _, rfl, .ty "tuple", ht, k, false, rfl, iteT (mk_err fun d hd => q2 _ rfl H d (fun _ _ z => z) hd)⟩
  | some os =>
    obtain ⟨p, xs, rfl, hT, hl, hx⟩ := hv
    have hS : SqT K H p xs := hT
    refine ⟨_, rfl, _, _, _, _, _, rfl, .ty "tuple", sqt_ty37 hT, kit_ty (r := true) (by decide +kernel), true, rfl, iteF ⟨_, rfl, p, _, rfl, .inr hS, rfl, _, rfl, ?_⟩⟩
    cases os with
    | nil =>
      have l0 : decide (V.int (xs.length : Int) = V.int 0) = true := decide_eq_true (by rw [hl]; rfl)
      rw [l0]
      exact iteT (mk_err fun d hd => q2 _ rfl H d (fun _ _ z => z) hd)
    | cons o r =>
      have l0 : decide (V.int (xs.length : Int) = V.int 0) = false := decide_eq_false fun z => by
        have := V.int.inj z
        rw [hl, List.length_cons] at this; omega
      rw [l0]
      have hw : wrongC (some (o :: r)) = (badCo (o :: r) 0).map fun i => V.int (i : Int) := rfl
      rw [hw] at q1 q2
      clear hw l0
      generalize o :: r = os at *
      refine iteF ⟨_, rfl, p, _, rfl, hS, walk_enumT (K := K) (a := p) (xs := xs) (c := 0) (fun i σ Hn => Same H Hn ∧ i ≤ 60 ∧ badCo (os.drop i) i = badCo os 0 ∧ ∃ v1 v2, σ = [some (.ref p), v1, v2]) ⟨fun _ _ z => z, Nat.zero_le _, rfl, _, _, rfl⟩ (fun _ _ _ _ z => sameT z.1 hS) ?_ ?_⟩
      · rintro i x T σ H2 hx' ⟨s2, i2, hb, v1, v2, rfl⟩ hT2
        have il : i < os.length := by rw [← hl]; exact (List.getElem?_eq_some_iff.mp hx').1
        have ho : os[i]? = some os[i] := List.getElem?_eq_getElem il
        have hk := hx i x os[i] hx' ho
        rw [List.drop_eq_getElem_cons il] at hb
        generalize os[i] = o at *
        refine ⟨T, _, rfl, SqT.of upd_same, rfl, _, _, rfl, _, _, rfl, rfl, ?_⟩
        have s3 : Same H (upd H2 T (.tup [.int (0 + ((i : Nat) : Int)), x])) := s2.trans (same_new hT2)
        have hk3 := hk.mono s3
        revert s3 hk3
        generalize upd H2 T (.tup [.int (0 + ((i : Nat) : Int)), x]) = H3
        intro s3 hk3
        by_cases c : i = 60
        · have e : badCo os 0 = some i := by rw [← hb]; show (if _ then _ else _) = _; rw [if_pos (.inl c)]
          rw [e] at q2
          refine ⟨_, rfl, _, _, rfl, rfl, _, rfl, ite2 (fun _ => ?_) (fun c' => absurd (decide_eq_true (show (60 : Int) ≤ 0 + (i : Int) by omega)) c')⟩
          refine ⟨_, rfl, mk_err fun d hd => ?_⟩
          rw [show (0 : Int) + (i : Int) = (i : Int) by omega]
          exact q2 _ rfl H3 d s3 hd
        · refine ⟨_, rfl, _, _, rfl, rfl, _, rfl, ite2 (fun c' => absurd (of_decide_eq_true c' : (60 : Int) ≤ 0 + (i : Int)) (by omega)) (fun _ => ?_)⟩
          refine ⟨_, rfl, x, 0, 6, o, rfl, hk3, _, rfl, ?_⟩
          cases e1 : inRg o 0 6 with
          | true =>
            have e : badCo (os.drop (i + 1)) (i + 1) = badCo os 0 := by
              rw [← hb]; show _ = (if _ then _ else _); rw [if_neg (fun z => z.elim c fun z => by rw [e1] at z; cases z)]
            exact iteF ⟨s3, by omega, e, _, _, rfl⟩
          | false =>
            have e : badCo os 0 = some i := by rw [← hb]; show (if _ then _ else _) = _; rw [if_pos (.inr e1)]
            rw [e] at q2
            refine iteT ⟨_, rfl, mk_err fun d hd => ?_⟩
            rw [show (0 : Int) + (i : Int) = (i : Int) by omega]
            exact q2 _ rfl H3 d s3 hd
      · rintro σ H2 ⟨s2, i2, hb, v1, v2, rfl⟩
        rw [hl, List.drop_length] at hb
        have hb' : badCo os 0 = none := hb.symm
        rw [hb'] at q1
        exact q1 rfl H2 s2
end
end Ts
namespace Ts
open PySem PySem.Spec PyProof.Rows L2
section
variable {P : Program} {w : World} {K : PySem.W.Frag} {mg : Str → Option Value} {base : Heap}
theorem has_ticks_of (D : DefAt K mg "ticks_of" s_ticks_of) (B : Blt0 mg) (h_members_of : Has P w K mg base 1 "members_of" ["crew"] spMembersOf) : Has P w K mg base 2 "ticks_of" ["way"] (spTicksOf K) := by
  refine D.has (fun _ _ _ _ _ _ us hl => match us, hl with | [_], _ => rfl) fun f fd F => F.ok sc_ticks_of (fun vs H Q E h => ?_) (fun cdv A outer s H vs Q E hr h => ?_)
  · rcases h with ⟨rfl, _⟩ | ⟨a, cs, rfl, _⟩ <;> rfl
  refine ⟨_, (pss_cons (ps_if (pt_cmpR op_isN (pv 0) pe_non (nomark _)) (pss_one (ps_ret pe_non)) pss_nil)
      (pss_one (ps_ret (pe_callTy call_tuple_of (by rfl) B.ztuple (by decide +kernel) (pa_cons (pe_lc (own := [("crew", 1)]) rfl sc_ticks_of.nd (pi_list (pv 0)) (blkOk_by (N := ["way", "crew"]) (sc := defScope s_ticks_of) (own := [("crew", 1)]) (by decide +kernel)) (fun _ _ _ _ _ => (pg_name (i := 1) sc_ticks_of.nd rfl (.inl rfl) (.inr rfl))) (fun _ _ _ _ _ => pts_nil) (fun _ _ _ _ _ => (pe_h h_members_of (hr.mono (by decide)) (pa_cons (pv 1) pa_nil)))) pa_nil))))), ?_⟩
  rcases h with ⟨rfl, q⟩ | ⟨a, cs, rfl, hS, hc, hl, q⟩
  · exact ⟨_, rfl, rfl, _, rfl, iteT q⟩
  · refine ⟨_, rfl, rfl, _, rfl, iteF ?_⟩
    refine ⟨_, rfl, a, rfl, ⟨_, hS⟩, fun pl hpl => ?_⟩
    refine lc_list (K := K) (a := a) (xs := natV cs) (fun i Hm => Same H Hm ∧ ∃ us, Hm pl = some (.lst us) ∧ RowT (hid pl Hm) us ((cs.take i).map rowOf)) ⟨same_new hpl, [], upd_same, by rw [List.take_zero]; exact .nil⟩ (fun _ _ _ z => z.1.seq hS) ?_ ?_
    · rintro i x Hm hx ⟨sm, us, em, R⟩
      rw [List.getElem?_map] at hx
      cases ec : cs[i]? with
      | none => rw [ec] at hx; cases hx
      | some c =>
      rw [ec] at hx
      cases Option.some.inj hx
      have cb := hc c (List.mem_of_getElem? ec)
      have il : i < cs.length := (List.getElem?_eq_some_iff.mp ec).1
      have lu : us.length = i := by rw [R.length, List.length_map, List.length_take]; omega
      refine ⟨rfl, yesIf ⟨_, rfl, c, rfl, by omega, fun pm H5 hpm s5 e5 => ?_⟩⟩
      have nm : pm ≠ pl := fun z => by rw [z, em] at hpm; cases hpm
      refine ⟨us, s5 _ _ em, small1000 (by omega), Same.app hpl (sm.trans s5), us ++ [.ref pm], upd_same, ?_⟩
      rw [map_take_succ _ ec]
      refine ((R.mono (hid_same (b := pl) s5)).mono hid_put).snoc ?_
      refine hid_put _ _ ((hid_ne nm).trans ?_)
      rw [e5]
      unfold rowOf natV
      rw [List.map_map]; rfl
    rintro Hm ⟨sm, us, em, R⟩
    rw [List.length_map, List.take_length] at R
    refine ⟨pl, us, rfl, .inl ⟨SqL.of em, fun pt hpt => ?_⟩⟩
    exact q pt us _ (sm.free hpt) (sm.trans (same_new hpt)) upd_same ((R.mono hid_sub).mono (same_new hpt))
end
end Ts
namespace Ts
open PySem PySem.Spec PyProof.Rows L2
section
variable {P : Program} {w : World} {K : PySem.W.Frag} {mg : Str → Option Value} {base : Heap}
theorem has_any_wayG {C : Addr} (D : DefAt K mg "any_way" s_any_way) (B : Blt0 mg) (W : WalkC K mg C) (m_is_alive : HasD P w K mg base 1 C "is_alive" ["self", "moment", "ahead"] (spAlive K C)) (m_choices : HasD P w K mg base 2 C "choices" ["self", "moment", "ahead"] (spChoicesW K C)) (m_ahead_behind : HasD P w K mg base 1 C "ahead_behind" ["self", "moment", "ahead", "crew"] (spBehind K C)) :
    Has P w K mg base 3 "any_way" ["walk"] (spAnyWayG K C) := by
  refine D.has (fun _ _ _ _ _ _ us hl => match us, hl with | [_], _ => rfl) fun f fd F => F.ok sc_any_way (fun vs H Q E h => ?_) (fun cdv A outer s H vs Q E hr h => ?_)
  · obtain ⟨a, js, hs, rfl, _⟩ := h; rfl
  obtain ⟨a, js, hs, rfl, WA, G, l6, hsp, q1, q2⟩ := h
  refine ⟨_, (pss_cons (ps_if (pt_not (pt_val (pe_hd m_is_alive W.cl (hr.mono (by decide)) (pv 0) (pa_cons pe_int (pa_cons pe_int pa_nil))))) (pss_one (ps_ret pe_non)) pss_nil)
      (pss_cons (ps_set (i := 1) sc_any_way.nd rfl (.inl rfl) pe_int)
      (pss_cons (ps_set (i := 2) sc_any_way.nd rfl (.inl rfl) (pe_lst pa_nil))
      (pss_cons (ps_for PassesOwn.never rfl (pi_range1 (by rfl) B.zrange (pa_cons (pe_fld (pv 0) rfl) pa_nil)) (pg_name (i := 3) sc_any_way.nd rfl (.inl rfl)) (pss_cons (ps_set (i := 4) sc_any_way.nd rfl (.inl rfl) (pe_ix ix_list (pe_hd m_choices W.cl (hr.mono (by decide)) (pv 0) (pa_cons (pv 3) (pa_cons (pv 1) pa_nil))) pe_int (fun _ _ => rfl)))
      (pss_cons (ps_expr (pe_bm PySem.F.plainAttrs_list PySem.F.slot_list_append PySem.F.type_list_append mt_append (pv 2) (pa_cons (pv 4) pa_nil)))
      (pss_one (ps_set (i := 1) sc_any_way.nd rfl (.inl rfl) (pe_hd m_ahead_behind W.cl (hr.mono (by decide)) (pv 0) (pa_cons (pv 3) (pa_cons (pv 1) (pa_cons (pv 4) pa_nil)))))))))
      (pss_one (ps_ret (pv 2))))))), ?_⟩
  obtain ⟨dx, fs, ha, WF, _, _, la, lc, lb, _⟩ := id WA.ex
  refine ⟨_, rfl, a, dx, fs, rfl, ha, la, a, 0, 0, js, hs, rfl, WA, Nat.zero_le _, _, rfl, ?_⟩
  cases al : aliveB js hs 0 0 with
  | false => exact iteT (q1 al)
  | true =>
    refine iteF ?_
    have q := q2 al
    have tk := WF.ticks
    refine ⟨by show 0 ≤ sizeLine; decide, fun L hL => ?_⟩
    have s2 : Same H (upd H L (.lst [])) := same_new hL
    have f2 : (upd H L (.lst [])) L = some (.lst (natV ((List.range 0).map (cN js hs)))) := upd_same
    revert s2 f2
    generalize upd H L (.lst []) = H2
    intro s2 f2
    dsimp only [L2.start, List.map, List.set]
    refine ⟨_, rfl, a, C, dx, fs, _, rfl, s2 _ _ ha, W.cl, W.nticks, tk, _, rfl, by omega, by omega, ?_⟩
    have toS : ∀ {Hn : Hp}, But L H2 Hn → Same H Hn := fun {Hn} bt x o e => bt x o (ne_of_none e hL) (s2 x o e)
    refine for_range (lo := 0) (n := ((hs.length : Int)).toNat) (fun i σ Hn => But L H2 Hn ∧ Hn L = some (.lst (natV ((List.range i).map (cN js hs)))) ∧ ∃ v3 v4, σ = [some (.ref a), some (.int (aN js hs i : Int)), some (.ref L), v3, v4]) ⟨But.refl, f2, _, _, rfl⟩ ?_ ?_
    · rintro i σ H5 hi ⟨b5, e5, v3, v4, rfl⟩
      have hi : i < hs.length := by omega
      have z0 : (0 : Int) + (i : Int) = (i : Int) := by omega
      rw [z0]
      have WA5 := WA.mono (toS b5)
      obtain ⟨dx5, fs5, ha5, WF5, _, _, la5, lc5, lb5, _⟩ := id WA5.ex
      obtain ⟨c1, c2⟩ := any_stepG G al hi
      have cg : growN js i ≤ aN js hs i + cN js hs i := (crews_in _ (List.mem_filter.mp c1).1).1
      dsimp only [List.set]
      refine ⟨_, rfl, a, dx5, fs5, rfl, ha5, lc5, _, rfl, _, rfl, a, i, aN js hs i, js, hs, rfl, WA5, l6, hi, fun pc H6 hpc s6 e6 => ?_⟩
      refine ⟨pc, _, 0, .int (cN js hs i : Int), rfl, rfl, SqL.of e6, atI_nat (j := 0) (by rw [List.getElem?_map, c2]; rfl), ?_⟩
      have e56 := s6 _ _ e5
      dsimp only [List.set]
      refine ⟨_, rfl, .inl ⟨rfl, _, SqL.of e56⟩, _, rfl, L, _, _, rfl, rfl, e56, ?_, ?_⟩
      · rw [List.length_map, List.length_map, List.length_range]; exact small1000 (by omega)
      have b7 : But L H2 (upd H6 L (.lst (natV ((List.range i).map (cN js hs)) ++ [.int (cN js hs i : Int)]))) := (b5.trans (But.of_same s6)).trans But.set
      have e7 : (upd H6 L (.lst (natV ((List.range i).map (cN js hs)) ++ [.int (cN js hs i : Int)]))) L = some (.lst (natV ((List.range (i + 1)).map (cN js hs)))) := by
        rw [upd_same, List.range_succ, List.map_append, natV, natV, List.map_append]; rfl
      revert b7 e7
      generalize upd H6 L (.lst (natV ((List.range i).map (cN js hs)) ++ [.int (cN js hs i : Int)])) = H7
      intro b7 e7
      have WA7 := WA.mono (toS b7)
      obtain ⟨dx7, fs7, ha7, WF7, _, _, la7, lc7, lb7, _⟩ := id WA7.ex
      refine ⟨_, rfl, a, dx7, fs7, rfl, ha7, lb7, _, rfl, _, rfl, _, rfl, a, i, aN js hs i, cN js hs i, js, hs, rfl, WA7, hi, cg, b7, e7, _, _, rfl⟩
    · rintro σ H5 ⟨b5, e5, v3, v4, rfl⟩
      have s5 := toS b5
      refine ⟨_, rfl, ?_⟩
      rw [Int.toNat_natCast] at e5
      have e := anyN_steps js hs hs.length 0
      rw [show aN js hs 0 = 0 from rfl, ← List.range_eq_range'] at e
      exact q L H5 hL s5 (by rw [e]; exact e5)
theorem ok_numbersW {C f : Addr} {fd : FuncData} (F : Fun K "numbers_of" "Walk.numbers_of" s_Walk_numbers_of f fd) (B : Blt0 mg) (W : WalkC K mg C) : FnOk P w K mg base CX0 1 f fd ["self", "moment", "ahead"] (spNumbersOf K C) := by
  refine F.ok sc_Walk_numbers_of (fun vs H Q E h => ?_) (fun cdv A outer s H vs Q E hr h => ?_)
  · obtain ⟨a, m, c, js, hs, rfl, _⟩ := h; rfl
  obtain ⟨a, m, c, js, hs, rfl, WA, l6, hm, q⟩ := h
  refine ⟨_, (pss_one (ps_ret (pe_callTy call_tuple_of (by rfl) B.ztuple (by decide +kernel) (pa_cons (pe_lc (own := [("at", 3), ("low", 4)]) rfl sc_Walk_numbers_of.nd (pi_enum (by rfl) B.zenumerate (pa_cons (pe_ix ix_list (pe_fld (pv 0) rfl) (pv 1) (fun _ _ => rfl)) pa_nil)) (blkOk_by (N := ["self", "moment", "ahead", "at", "low"]) (sc := defScope s_Walk_numbers_of) (own := [("at", 3), ("low", 4)]) (by decide +kernel)) (fun _ _ _ _ _ => (pg_tupK (K := K) (n := 2) rfl rfl (pgs_cons (pg_name (i := 3) sc_Walk_numbers_of.nd rfl (.inl rfl) (.inr rfl)) (pgs_cons (pg_name (i := 4) sc_Walk_numbers_of.nd rfl (.inl rfl) (.inr rfl)) pgs_nil)))) (fun _ _ _ _ _ => pts_nil) (fun _ _ _ _ _ => (pe_op op_add (pv 4) (pe_op op_and (pe_op op_shr (pv 2) (pv 3)) pe_int)))) pa_nil)))), ?_⟩
  obtain ⟨dx, fs, ha, WF, _⟩ := WA.ex
  obtain ⟨vl, fl_, hl_⟩ := WF.lows
  obtain ⟨pl, ls, rfl, hlS, hlA⟩ := hl_.list
  have ll : ls.length = hs.length + 1 := by rw [hlA.length, List.length_map, List.length_range]
  have er : ls[m]? = some (ls[m]'(by omega)) := List.getElem?_eq_getElem _
  obtain ⟨d, hd, hv⟩ := hlA.get er
  rw [List.getElem?_map, List.getElem?_range (by omega)] at hd
  cases Option.some.inj hd
  obtain ⟨r, xs, ex, hr1, hr2⟩ := hv.list
  cases DpAll.ints_eq hr2
  rw [ex] at er
  refine ⟨_, rfl, a, C, dx, fs, _, rfl, ha, W.cl, W.nlows, fl_, _, rfl, pl, ls, (m : Int), .ref r, rfl, rfl, hlS, atI_nat er, r, _, rfl, hr1, fun D2 hD => ?_⟩
  refine lc_it walk_enum (fun i Hm => Same H Hm ∧ Hm D2 = some (.lst (((rowN js m c).take i).map V.int))) ⟨same_new hD, upd_same⟩ (fun i Hm _ z => z.1.seq hr1) ?_ ?_
  · rintro i x Hm H' hi ⟨sm, em⟩ ⟨T, y, z, rfl, hT, rfl, ey, ez⟩
    dsimp only at ey ez
    cases ey
    have il : i < js.length := by rw [List.length_map] at hi; unfold lowsR at hi; rw [List.length_map] at hi; exact hi
    have hj : js[i]? = some js[i] := List.getElem?_eq_getElem il
    rw [List.getElem?_map] at ez
    unfold lowsR at ez
    rw [List.getElem?_map, hj] at ez
    cases Option.some.inj ez
    have sT : Same Hm (upd Hm T (.tup [.int (i : Int), .int (lowI js[i].2.1 js[i].2.2 (m : Int))])) := same_new hT
    have eD := sT _ _ em
    have sa := sm.trans sT
    have lr := rowN_len js m c
    refine ⟨T, _, rfl, SqT.of upd_same, rfl, _, _, rfl, _, _, rfl, rfl, rfl, ?_⟩
    refine yesIf ⟨_, rfl, _, rfl, _, rfl, _, _, rfl, rfl, by omega, _, _, rfl, rfl, _, _, rfl, rfl, _, eD, ?_, Same.app hD sa, ?_⟩
    · rw [List.length_map, List.length_take]; exact small1000 (by omega)
    · have ev : lowI js[i].2.1 js[i].2.2 (m : Int) + Builtin.bitAnd ((c : Int) / 2 ^ ((i : Int)).toNat) 1 = lowI js[i].2.1 js[i].2.2 (m : Int) + ((c / 2 ^ i % 2 : Nat) : Int) := by
        rw [shr_nat, show (1 : Int) = ((1 : Nat) : Int) from rfl, and_nat, Nat.and_one_is_mod]
      rw [upd_same, map_take_succ V.int (rowN_at hj), ← ev]
  · rintro Hm ⟨sm, em⟩
    rw [List.length_map, show (lowsR js m).length = (rowN js m c).length by rw [rowN_len]; unfold lowsR; rw [List.length_map], List.take_length] at em
    exact ⟨D2, _, rfl, .inl ⟨SqL.of em, fun pt hpt => q pt _ (sm.free hpt) (sm.trans (same_new hpt)) upd_same⟩⟩
theorem has_standings_in {C : Addr} (D : DefAt K mg "_standings_in" s__standings_in) (B : Blt0 mg) (W : WalkC K mg C) (m_numbers_of : HasD P w K mg base 1 C "numbers_of" ["self", "moment", "ahead"] (spNumbersOf K C)) :
    Has P w K mg base 2 "_standings_in" ["walk", "moment", "layer"] (spStandingsIn K C) := by
  refine D.has (fun _ _ _ _ _ _ us hl => match us, hl with | [_, _, _], _ => rfl) fun f fd F => F.ok sc__standings_in (fun vs H Q E h => ?_) (fun cdv A outer s H vs Q E hr h => ?_)
  · obtain ⟨a, l, m, as, js, hs, rfl, _⟩ := h; rfl
  obtain ⟨a, l, m, as, js, hs, rfl, WA, l0, l6, hm, hS, la, q⟩ := h
  refine ⟨_, (pss_one (ps_ret (pe_callTy call_tuple_of (by rfl) B.ztuple (by decide +kernel) (pa_cons (pe_callB (cr_sortE (hu2 (hu64 hr))) (by rfl) B.zsorted (by decide +kernel) (pa_cons (pe_lc (own := [("ahead", 3)]) rfl sc__standings_in.nd (pi_list (pv 2)) (blkOk_by (N := ["walk", "moment", "layer", "ahead"]) (sc := defScope s__standings_in) (own := [("ahead", 3)]) (by decide +kernel)) (fun _ _ _ _ _ => (pg_name (i := 3) sc__standings_in.nd rfl (.inl rfl) (.inr rfl))) (fun _ _ _ _ _ => pts_nil) (fun _ _ _ _ _ => (pe_hd m_numbers_of W.cl (hr.mono (by decide)) (pv 0) (pa_cons (pv 1) (pa_cons (pv 3) pa_nil))))) pa_nil)) pa_nil)))), ?_⟩
  obtain ⟨dx, fs, ha, WF, _, _, _, _, _, _, ln⟩ := id WA.ex
  refine ⟨_, rfl, l, rfl, ⟨_, hS⟩, fun pl hpl => ?_⟩
  refine lc_list (K := K) (a := l) (xs := natV as) (fun i Hm => Same H Hm ∧ ∃ us, Hm pl = some (.lst us) ∧ us.length = min i as.length ∧ DpAll K (hid pl Hm) us (((as.take i).map (rowN js m)).map rowD)) ⟨same_new hpl, [], upd_same, by simp, .nil⟩ (fun _ _ _ z => z.1.seq hS) ?_ ?_
  · rintro i x Hm hx ⟨sm, us, em, lu, R⟩
    rw [List.getElem?_map] at hx
    cases ec : as[i]? with
    | none => rw [ec] at hx; cases hx
    | some c =>
    rw [ec] at hx
    cases Option.some.inj hx
    have il : i < as.length := (List.getElem?_eq_some_iff.mp ec).1
    refine ⟨rfl, yesIf ⟨_, rfl, a, dx, fs, rfl, sm _ _ ha, ln, _, rfl, _, rfl, a, m, c, js, hs, rfl, WA.mono sm, l6, hm, fun pm H5 hpm s5 e5 => ?_⟩⟩
    have nm : pm ≠ pl := fun z => by rw [z, em] at hpm; cases hpm
    refine ⟨us, s5 _ _ em, small1000 (by omega), Same.app hpl (sm.trans s5), us ++ [.ref pm], upd_same, by rw [List.length_append, lu]; show _ + 1 = _; omega, ?_⟩
    rw [List.take_add_one, ec, List.map_append, List.map_append]
    have R5 := (R.mono (hid_same (b := pl) s5)).mono (hid_put (o := .lst (us ++ [V.ref pm])))
    refine R5.append (.cons (.tup (SqT.of ?_) (DpAll.ints _)) .nil)
    exact hid_put _ _ ((hid_ne nm).trans e5)
  rintro Hm ⟨sm, us, em, lu, R⟩
  rw [List.length_map, List.take_length] at R
  refine ⟨pl, us, _, rfl, SqL.of em, R.mono hid_sub, fun r hr => ?_, fun ys rows p4 dys srt stb hp4 => ⟨p4, ys, rfl, .inl ⟨SqL.of upd_same, fun pt hpt => ?_⟩⟩⟩
  · obtain ⟨c, _, rfl⟩ := List.mem_map.mp (List.mem_of_mem_tail hr)
    rw [rowN_len]; omega
  · have s4 := same_new (o := .lst ys) hp4
    have st := same_new (o := .tup ys) hpt
    exact q pt ys rows _ ((sm.trans s4).free hpt) ((sm.trans s4).trans st) upd_same ((dys.mono s4).mono st) srt stb
theorem has_layers_of {C CW : Addr} (D : DefAt K mg "layers_of" s_layers_of) (B : Blt0 mg) (T : LotC K mg C) (W : WalkC K mg CW) (p_shares : PropH P w K mg base C "shares" "_shares") (hWalk : HasM P w K mg base 3 CW ["self", "shares", "hands"] (spInitW K CW))
    (m_crews : HasD P w K mg base 1 CW "crews" ["self", "moment", "ahead"] (spCrews K CW)) (m_ahead_behind : HasD P w K mg base 1 CW "ahead_behind" ["self", "moment", "ahead", "crew"] (spBehind K CW)) (h__standings_in : Has P w K mg base 2 "_standings_in" ["walk", "moment", "layer"] (spStandingsIn K CW)) :
    Has P w K mg base 5 "layers_of" ["lot", "counts"] (spLayers K C) := by
  refine D.has (fun _ _ _ _ _ _ us hl => match us, hl with | [_, _], _ => rfl) fun f fd F => F.ok sc_layers_of (fun vs H Q E h => ?_) (fun cdv A outer s H vs Q E hr h => ?_)
  · obtain ⟨a, c, n, js, hs, rfl, _⟩ := h; rfl
  obtain ⟨a, c, n, js, hs, rfl, L, G, l0, l6, hsl, hsb, hC, q⟩ := h
  have hu : (A.deeper (envOfC "layers_of" (defScope s_layers_of) s.heap.objs.size f cdv)).units + 1 < cLine := by have := hu64 hr; omega
  refine ⟨_, (pss_cons (ps_set (i := 2) sc_layers_of.nd rfl (.inl rfl) (pe_hm hWalk W.mgC (hr.mono (by decide)) (pa_cons (pe_ph p_shares T.cl (hr.mono (by decide)) (pv 0)) (pa_cons (pv 1) pa_nil))))
      (pss_cons (ps_set (i := 3) sc_layers_of.nd rfl (.inl rfl) (pe_lst (pa_cons pe_int pa_nil)))
      (pss_cons (ps_set (i := 4) sc_layers_of.nd rfl (.inl rfl) (pe_lst (pa_cons (pe_h h__standings_in (hr.mono (by decide)) (pa_cons (pv 2) (pa_cons pe_int (pa_cons (pv 3) pa_nil)))) pa_nil)))
      (pss_cons (ps_for PassesOwn.never rfl (pi_range1 (by rfl) B.zrange (pa_cons (pe_fld (pv 2) rfl) pa_nil)) (pg_name (i := 5) sc_layers_of.nd rfl (.inl rfl)) (pss_cons (ps_set (i := 6) sc_layers_of.nd rfl (.inl rfl) pe_dnewK)
      (pss_cons (ps_for PassesOwn.never rfl (pi_list (pv 3)) (pg_name (i := 7) sc_layers_of.nd rfl (.inl rfl)) (pss_one (ps_for PassesOwn.never rfl (pi_list (pe_hd m_crews W.cl (hr.mono (by decide)) (pv 2) (pa_cons (pv 5) (pa_cons (pv 7) pa_nil)))) (pg_name (i := 8) sc_layers_of.nd rfl (.inl rfl)) (pss_one (ps_dput hu (pv 6) (pe_hd m_ahead_behind W.cl (hr.mono (by decide)) (pv 2) (pa_cons (pv 5) (pa_cons (pv 7) (pa_cons (pv 8) pa_nil)))) pe_bl rfl)))))
      (pss_cons (ps_set (i := 3) sc_layers_of.nd rfl (.inl rfl) (pe_callTy (call_listD rfl) (by rfl) B.zlist (by decide +kernel) (pa_cons (pv 6) pa_nil)))
      (pss_cons (ps_expr (pe_bm PySem.F.plainAttrs_list PySem.F.slot_list_append PySem.F.type_list_append mt_append (pv 4) (pa_cons (pe_h h__standings_in (hr.mono (by decide)) (pa_cons (pv 2) (pa_cons (pe_op op_add (pv 5) pe_int) (pa_cons (pv 3) pa_nil)))) pa_nil)))
      (pss_one (ps_if (pt_not (pt_truth (pv 3) (by intro _; rfl))) (pss_one ps_break) pss_nil)))))))
      (pss_one (ps_ret (pe_callTy call_tuple_of (by rfl) B.ztuple (by decide +kernel) (pa_cons (pv 4) pa_nil)))))))), ?_⟩
  obtain ⟨dx0, pn, ps, pt, ha, h1, h2, h3⟩ := L.ex
  obtain ⟨ps2, xs, e, hS, hA⟩ := h2.tuple
  cases e
  refine ⟨_, rfl, lot_get ha lot_shares ⟨_, rfl, ?_⟩⟩
  intro wa dx hx hdx hnx
  have s3 : Same H (upd (upd H dx (.own wa)) wa (.ins CW dx [])) := fun a o e => by
    rw [upd_ne (ne_of_none e hx), upd_ne (ne_of_none e hdx)]; exact e
  refine ⟨wa, dx, ps, c, xs, js, hs, rfl, upd_same, sameT s3 hS, hA.mono s3, .inr (sameT s3 hC), G, l6, by omega, hsb, fun H4 b4 WA => ⟨rfl, ?_⟩⟩
  have s04 := lot_same b4 hx hdx
  clear b4 hx hdx hnx s3
  obtain ⟨dx4, fs4, ha4, WF4, _, _, la4, lc4, lb4, _⟩ := id WA.ex
  have tk := WF4.ticks
  dsimp only [L2.start, List.map, List.set]
  refine ⟨by show 1 ≤ sizeLine; decide, fun l hl => ?_⟩
  have s5 := same_new (o := .lst [V.int 0]) hl
  have e5 : (upd H4 l (.lst [V.int 0])) l = some (.lst (natV [0])) := upd_same
  revert s5 e5
  generalize upd H4 l (.lst [V.int 0]) = H5
  intro s5 e5
  have WA5 := WA.mono s5
  dsimp only [List.set]
  refine ⟨_, rfl, _, rfl, wa, l, 0, [0], js, hs, rfl, WA5, l0, l6, Nat.zero_le _, SqL.of e5, by decide, fun p0 us0 rows0 H6 hp6 s6 e6 d6 srt6 stb6 => ?_⟩
  refine ⟨by show 1 ≤ sizeLine; decide, fun Lz hLz => ?_⟩
  have s7 := same_new (o := .lst [V.ref p0]) hLz
  have e7 : (upd H6 Lz (.lst [V.ref p0])) Lz = some (.lst [.ref p0]) := upd_same
  have e7l := s7 _ _ (s6 _ _ e5)
  have e7p := s7 _ _ e6
  have nzp : p0 ≠ Lz := fun z => by rw [z, hLz] at e6; cases e6
  have nzl : l ≠ Lz := fun z => by have := s6 _ _ e5; rw [z, hLz] at this; cases this
  have s47 := (s5.trans s6).trans s7
  have hLz4 : H4 Lz = none := (s5.trans s6).free hLz
  have us0n : us0 ≠ [] := fun z => by
    have h1 := d6.length
    have h2 := stb6.perm.length_eq
    rw [List.length_map] at h1 h2
    rw [z, h2] at h1
    cases h1
  revert s47 e7 e7l e7p
  clear s7 srt6 stb6 d6 hp6 s6 e6
  generalize upd H6 Lz (.lst [V.ref p0]) = H7
  intro e7 e7l e7p s47
  clear hLz
  dsimp only [List.set]
  have toS : ∀ {Hn : Hp}, But Lz H7 Hn → Same H4 Hn := fun {Hn} bt x o e => bt x o (ne_of_none e hLz4) (s47 x o e)
  have reach0 : ∀ {i : Nat} {as : List Nat}, LayOk js hs i as → as ≠ [] → ∃ bs, Reach js hs i bs := fun {i as} h ne => Classical.byContradiction fun z => ne ((lay_empty h).mpr fun bs r => z ⟨bs, r⟩)
  -- the end
  have fin : ∀ (x : Nat) (zs : List V) (Hn : Hp), But Lz H7 Hn → Hn Lz = some (.lst zs) → LaysAt K (hid Lz Hn) js hs zs → LongAt js hs x → zs.length = (if x = hs.length then x + 1 else x + 2) →
      ∀ (pt : Addr), Hn pt = none → Q (.ref pt) (upd Hn pt (.tup zs)) := fun x zs Hn bn en lz lx ln pt hpt => by
    have st := same_new (o := .tup zs) hpt
    exact q pt zs x _ ((s04.trans (toS bn)).free hpt) ((s04.trans (toS bn)).trans st) upd_same ((lz.mono hid_sub).mono st) lx ln
  refine ⟨_, rfl, wa, CW, dx4, fs4, _, rfl, s47 _ _ ha4, W.cl, W.nticks, tk, _, rfl, by omega, by omega, ?_⟩
  refine for_range (lo := 0) (n := ((hs.length : Int)).toNat) (fun i σ Hn => But Lz H7 Hn ∧ ∃ (l : Addr) (as : List Nat) (zs : List V) (v5 v6 v7 v8 : Option V), σ = [some (.ref a), some (.ref c), some (.ref wa), some (.ref l), some (.ref Lz), v5, v6, v7, v8] ∧
      Hn l = some (.lst (natV as)) ∧ l ≠ Lz ∧ LayOk js hs i as ∧ as ≠ [] ∧ Hn Lz = some (.lst zs) ∧ zs.length = i + 1 ∧ LaysAt K (hid Lz Hn) js hs zs) ⟨But.refl, l, [0], [.ref p0], _, _, _, _, rfl, e7l, nzl, lay_zero js hs, by simp, e7, rfl, ?_⟩ ?_ ?_
  · intro i hi
    have : i = 0 := by have : i < 1 := hi; omega
    subst this
    refine ⟨p0, us0, rfl, SqT.of ((hid_ne nzp).trans e7p), ⟨fun z => absurd z us0n, fun z => absurd rfl (z _)⟩⟩
  · rintro i σ H8 hi ⟨b8, l, as, zs, v5, v6, v7, v8, rfl, el, nl, ok, ne, ez, lz, LZ⟩
    have hi : i < hs.length := by omega
    have z0 : (0 : Int) + (i : Int) = (i : Int) := by omega
    rw [z0]
    have WA8 := WA.mono (toS b8)
    obtain ⟨dx8, fs8, ha8, WF8, _, _, la8, lc8, lb8, _⟩ := id WA8.ex
    dsimp only [List.set]
    refine fun dn hdn => ?_
    have ndz : dn ≠ Lz := fun z => by rw [z, ez] at hdn; cases hdn
    have s89 : Same H8 (upd H8 dn (.dK [])) := same_new hdn
    have f9 : (upd H8 dn (.dK [])) dn = some (.dK (keyT (behA js hs i (as.take 0)))) := upd_same
    revert s89 f9
    generalize upd H8 dn (.dK []) = H9
    intro s89 f9
    dsimp only [List.set]
    have nld : l ≠ dn := fun z => by rw [← z, el] at hdn; cases hdn
    refine ⟨_, rfl, l, rfl, ⟨_, SqL.of (s89 _ _ el)⟩, ?_⟩
    refine for_list (K := K) (a := l) (xs := natV as) (fun k σ Hn => But dn H9 Hn ∧ Hn dn = some (.dK (keyT (behA js hs i (as.take k)))) ∧ ∃ v7 v8, σ = [some (.ref a), some (.ref c), some (.ref wa), some (.ref l), some (.ref Lz), some (.int (i : Int)), some (.ref dn), v7, v8]) ⟨But.refl, f9, _, _, rfl⟩ (fun _ _ _ _ z => SqL.of (z.1 _ _ nld (s89 _ _ el))) ?_ ?_
    · rintro k x σ Ha hx ⟨ba, fa, u7, u8, rfl⟩
      rw [List.getElem?_map] at hx
      cases em : as[k]? with
      | none => rw [em] at hx; cases hx
      | some y =>
      rw [em] at hx
      cases Option.some.inj hx
      have s8a : Same H8 Ha := fun c o e => ba c o (fun z => by rw [z, hdn] at e; cases e) (s89 _ _ e)
      have WAa := WA8.mono s8a
      obtain ⟨dxa, fsa, haa, WFa, _, _, laa, lca, lba, lcr, _⟩ := id WAa.ex
      dsimp only [List.set]
      refine ⟨_, rfl, wa, dxa, fsa, rfl, haa, by assumption, _, rfl, _, rfl, wa, i, y, js, hs, rfl, WAa, l6, hi, fun pc Hb hpc sb eb => ?_⟩
      have cg : ∀ c ∈ crewsN js hs i y, growN js i ≤ y + c := fun c hc => (crews_in c hc).1
      have sm := fun k2 : Nat => beh_small G l6 ok (k := k2) em
      have e2 : behA js hs i (as.take (k + 1)) = behC js i y (crewsN js hs i y) (behA js hs i (as.take k)) := by rw [List.take_add_one, em]; exact behA_snoc
      rw [e2]
      have cl : (crewsN js hs i y).length ≤ 64 := crews_len l6
      generalize crewsN js hs i y = cs at *
      have s8b := s8a.trans sb
      have WAb := WA8.mono s8b
      obtain ⟨dxb, fsb, hab, WFb, _, _, lab, lcb, lbb, _⟩ := id WAb.ex
      have npd : pc ≠ dn := fun z => by rw [z, fa] at hpc; cases hpc
      refine ⟨pc, rfl, ⟨_, SqL.of eb⟩, ?_⟩
      refine for_list (K := K) (a := pc) (xs := natV cs) (fun k2 σ Hn => But dn Hb Hn ∧ Hn dn = some (.dK (keyT (behC js i y (cs.take k2) (behA js hs i (as.take k))))) ∧ ∃ v8, σ = [some (.ref a), some (.ref c), some (.ref wa), some (.ref l), some (.ref Lz), some (.int (i : Int)), some (.ref dn), some (.int (y : Int)), v8]) ⟨But.refl, sb _ _ fa, _, rfl⟩ (fun _ _ _ _ z => SqL.of (z.1 _ _ npd eb)) ?_ ?_
      · rintro k2 x σ Hc hx ⟨bc, fc, w8, rfl⟩
        rw [List.getElem?_map] at hx
        cases ec : cs[k2]? with
        | none => rw [ec] at hx; cases hx
        | some c2 =>
        rw [ec] at hx
        cases Option.some.inj hx
        have hc := List.mem_of_getElem? ec
        have s8c : Same H8 Hc := fun c o e => bc c o (fun z => by rw [z, hdn] at e; cases e) (s8b _ _ e)
        have WAc := WA8.mono s8c
        obtain ⟨dxc, fsc, hac, WFc, _, _, lac, lcc, lbc, _⟩ := id WAc.ex
        have e3 : behC js i y (cs.take (k2 + 1)) (behA js hs i (as.take k)) = addN (behC js i y (cs.take k2) (behA js hs i (as.take k))) (y + c2 - growN js i) := by rw [List.take_add_one, ec]; exact behC_snoc
        rw [e3, ← keyT_put]
        dsimp only [List.set]
        refine ⟨_, rfl, _, rfl, wa, dxc, fsc, rfl, hac, lbc, _, rfl, _, rfl, _, rfl, wa, i, y, c2, js, hs, rfl, WAc, hi, cg c2 hc, ?_⟩
        refine ⟨dn, _, rfl, DPut.k (k := Sum.inl ((y + c2 - growN js i : Nat) : Int)) fc ?_, bc.trans But.set, upd_same, _, rfl⟩
        unfold keyT
        rw [List.length_map]
        exact Nat.lt_of_le_of_lt (sm k2) (small1000 (by omega))
      · rintro σ Hc ⟨bc, fc, w8, rfl⟩
        rw [List.length_map, List.take_length] at fc
        exact ⟨(ba.trans' sb).trans bc, fc, _, _, rfl⟩
    · rintro σ Ha ⟨ba, fa, u7, u8, rfl⟩
      rw [List.length_map, List.take_length] at fa
      have okn := lay_next G ok
      have ln64 := okn.len l6
      generalize behA js hs i as = bs at *
      have s8a : Same H8 Ha := fun c o e => ba c o (fun z => by rw [z, hdn] at e; cases e) (s89 _ _ e)
      refine ⟨_, rfl, dn, _, rfl, .inl fa, fun l2 hl2 => ?_⟩
      rw [keyT_keys]
      have sab := same_new (o := .lst (natV bs)) hl2
      have eb : (upd Ha l2 (.lst (natV bs))) l2 = some (.lst (natV bs)) := upd_same
      revert sab eb
      generalize upd Ha l2 (.lst (natV bs)) = Hb
      intro sab eb
      have s8b := s8a.trans sab
      have WAb := WA8.mono s8b
      have ezb := s8b _ _ ez
      have nl2 : l2 ≠ Lz := fun z => by rw [z, s8a _ _ ez] at hl2; cases hl2
      dsimp only [List.set]
      refine ⟨_, rfl, .inl ⟨rfl, _, SqL.of ezb⟩, _, rfl, _, rfl, _, _, rfl, rfl, _, rfl, wa, l2, i + 1, bs, js, hs, rfl, WAb, l0, l6, by omega, SqL.of eb, ln64, fun p us rows Hc hpc sc ec dc srt stb => ?_⟩
      have ezc := sc _ _ ezb
      refine ⟨Lz, zs, .ref p, rfl, rfl, ezc, small1000 (by omega), ?_⟩
      have npz : p ≠ Lz := fun z => by rw [z, ezb] at hpc; cases hpc
      have s8c := s8b.trans sc
      have bd : But Lz H7 (upd Hc Lz (.lst (zs ++ [.ref p]))) := (b8.trans (But.of_same s8c)).trans But.set
      have ed : (upd Hc Lz (.lst (zs ++ [.ref p]))) Lz = some (.lst (zs ++ [.ref p])) := upd_same
      have el2 : (upd Hc Lz (.lst (zs ++ [.ref p]))) l2 = some (.lst (natV bs)) := by rw [upd_ne nl2]; exact sc _ _ eb
      have lu : us.length = bs.length := by rw [dc.length, List.length_map, stb.perm.length_eq, List.length_map]
      have LZ' : LaysAt K (hid Lz (upd Hc Lz (.lst (zs ++ [.ref p])))) js hs (zs ++ [.ref p]) := by
        have L2 := (LZ.mono (hid_same (b := Lz) s8c)).mono (hid_put (o := .lst (zs ++ [V.ref p])))
        intro j hj
        by_cases c : j < zs.length
        · obtain ⟨q, ws, g1, g2, g3⟩ := L2 j c
          exact ⟨q, ws, by rw [List.getElem?_append_left c]; exact g1, g2, g3⟩
        · have ej : j = i + 1 := by rw [List.length_append] at hj; have : j < zs.length + 1 := hj; omega
          subst ej
          refine ⟨p, us, by rw [List.getElem?_append_right (by omega), lz, Nat.sub_self]; rfl, SqT.of ((hid_ne npz).trans ((upd_ne npz).trans ec)), ?_⟩
          rw [← lay_empty okn]
          constructor
          · intro z; rw [z] at lu; exact List.eq_nil_of_length_eq_zero lu.symm
          · intro z; rw [z] at lu; exact List.eq_nil_of_length_eq_zero lu
      revert bd ed el2 LZ'
      generalize upd Hc Lz (.lst (zs ++ [.ref p])) = Hd
      intro bd ed el2 LZ'
      dsimp only [List.set]
      refine ⟨_, rfl, _, .inl ⟨_, SqL.of el2, rfl⟩, ?_⟩
      cases eb : bs with
      | nil =>
        subst eb
        refine iteT ⟨_, rfl, Lz, _, rfl, .inl ⟨SqL.of ed, fin i _ Hd bd ed LZ' ⟨by omega, reach0 ok ne, fun _ => (lay_empty okn).mp rfl⟩ (by rw [if_neg (by omega), List.length_append, lz]; rfl)⟩⟩
      | cons b0 br =>
        rw [← eb]
        have e9 : (natV bs).isEmpty = false := by rw [eb]; rfl
        rw [e9]
        exact iteF ⟨bd, l2, bs, _, _, _, _, _, rfl, el2, nl2, okn, (fun z => by rw [z] at eb; cases eb), ed, by rw [List.length_append, lz]; rfl, LZ'⟩
  · rintro σ H8 ⟨b8, l, as, zs, v5, v6, v7, v8, rfl, el, nl, ok, ne, ez, lz, LZ⟩
    rw [Int.toNat_natCast] at ok lz
    refine ⟨_, rfl, Lz, zs, rfl, .inl ⟨SqL.of ez, fin hs.length zs H8 b8 ez LZ ⟨Nat.le_refl _, reach0 ok ne, fun z => by omega⟩ (by rw [if_pos rfl, lz])⟩⟩
end
end Ts
namespace Ts
open PySem PySem.Spec PyProof.Rows L2
section
variable {P : Program} {w : World} {K : PySem.W.Frag} {mg : Str → Option Value} {base : Heap}
theorem okx_longest {C CL CI f : Addr} {fd : FuncData} (F : Fun K "longest" "longest" s_longest f fd) (B : Blt0 mg) (hx_check_lot : HasX P w K mg base 3 "check_lot" ["lot"] (spCheckLotX K C CL)) (hx_check_counts : HasX P w K mg base 3 "check_counts" ["counts"] (spCheckCountsS K CI)) (h_layers_of : Has P w K mg base 5 "layers_of" ["lot", "counts"] (spLayers K C)) :
    FnOk P w K mg base (L2.CX P w) 6 f fd ["lot", "counts"] (spLongest K C CL CI) := by
  refine F.okX sc_longest (fun vs H Q E h => ?_) (fun cdv A outer s H vs Q E hr h => ?_)
  · obtain ⟨v, u, o, t, rfl, _⟩ := h; rfl
  obtain ⟨v, u, o, t, rfl, hv, hu, hG, q1, q2, q3⟩ := h
  have tk := takes_of (X := cxOf (L2.CX P w) P w K mg base ["lot", "counts", "layer"] "longest" (defScope s_longest) f cdv A outer s H E) (E := E) rfl rfl rfl rfl
  cases o with
  | none => exact ⟨_, pss_stop (ps_expr (pe_x hx_check_lot (hr.mono (by decide)) tk (pa_cons (pv 0) pa_nil))), _, rfl, v, none, rfl, hv, (fun z => by cases z), fun _ => q1 rfl⟩
  | some p =>
    obtain ⟨n, js⟩ := p
    obtain ⟨G, l0, l6⟩ := hG n js rfl
    obtain ⟨a, rfl, L⟩ := id hv
    cases ew : wrongC t with
    | some x => exact ⟨_, pss_cons (ps_expr (pe_x hx_check_lot (hr.mono (by decide)) tk (pa_cons (pv 0) pa_nil))) (pss_stop (ps_expr (pe_x hx_check_counts (hr.mono (by decide)) tk (pa_cons (pv 1) pa_nil)))), _, rfl, _, some (n, js), rfl, hv, (fun _ => ⟨_, rfl, u, t, rfl, hu, (fun z => by rw [ew] at z; cases z), fun x' ex => q2 n js x' rfl ex⟩), fun z => by cases z⟩
    | none =>
      obtain ⟨hs, rfl, h0, h60, hb⟩ := hs_of_wrong ew
      obtain ⟨c, rfl, hC⟩ := thing_hs hu
      have q := q3 n js hs rfl rfl h0 h60 hb
      refine ⟨_, (pss_cons (ps_expr (pe_x hx_check_lot (hr.mono (by decide)) tk (pa_cons (pv 0) pa_nil)))
      (pss_cons (ps_expr (pe_x hx_check_counts (hr.mono (by decide)) tk (pa_cons (pv 1) pa_nil)))
      (pss_one (ps_ret (pe_op op_sub (pe_callB call_len_seq (by rfl) B.zlen (by decide +kernel) (pa_cons (pe_lc (own := [("layer", 2)]) rfl sc_longest.nd (pi_tup (pe_h h_layers_of (hr.mono (by decide)) (pa_cons (pv 0) (pa_cons (pv 1) pa_nil)))) (blkOk_by (N := ["lot", "counts", "layer"]) (sc := defScope s_longest) (own := [("layer", 2)]) (by decide +kernel)) (fun _ _ _ _ _ => (pg_name (i := 2) sc_longest.nd rfl (.inl rfl) (.inr rfl))) (fun _ _ _ _ _ => (pts_one (pt_cmpR op_gt (pe_callB (lenS (K := K) rfl) (by rfl) B.zlen (by decide +kernel) (pa_cons (pv 2) pa_nil)) pe_int (nomark _)))) (fun _ _ _ _ _ => (pv 2))) pa_nil)) pe_int))))), _, rfl, _, some (n, js), rfl, hv, (fun _ => ⟨_, rfl, _, _, rfl, hu, (fun _ H1 s1 => ?_), fun x' ex => by rw [ew] at ex; cases ex⟩), fun z => by cases z⟩
      refine ⟨_, rfl, _, rfl, a, c, n, js, hs, rfl, L.mono s1, G, l0, l6, by omega, (fun m hm => by have := hb m hm; omega), sameT s1 hC, fun p us x H2 hp2 s2 e2 LZ LG ln => ?_⟩
      have lx := LG.1
      refine ⟨p, rfl, ⟨_, SqT.of e2⟩, fun pl hpl => ?_⟩
      refine lc_tup (K := K) (a := p) (xs := us) (fun i Hm => Same H2 Hm ∧ ∃ ys, Hm pl = some (.lst ys) ∧ ys.length = min i (x + 1)) ⟨same_new hpl, [], upd_same, by simp⟩ (fun _ _ _ z => SqT.of (z.1 _ _ e2)) ?_ ?_
      · rintro i y Hm hy ⟨sm, ys, em, ly⟩
        have il : i < us.length := (List.getElem?_eq_some_iff.mp hy).1
        obtain ⟨q2, ws, g1, g2, g3⟩ := (LZ.mono sm) i il
        rw [hy] at g1
        cases Option.some.inj g1
        have ix : i ≤ x + 1 ∧ (i = x + 1 → x < hs.length) := by
          by_cases c : x = hs.length
          · rw [if_pos c] at ln; exact ⟨by omega, fun z => by omega⟩
          · rw [if_neg c] at ln; exact ⟨by omega, fun z => by omega⟩
        refine ⟨rfl, _, rfl, q2, ws, rfl, .inr g2, _, _, rfl, rfl, _, rfl, ite2 (fun t => ?_) (fun t => ?_)⟩
        · have t : (0 : Int) < ((ws.length : Nat) : Int) := of_decide_eq_true t
          have hi : i ≤ x := Classical.byContradiction fun no => by
            have e : i = x + 1 := by omega
            subst e
            have := g3.mpr (LG.2.2 (ix.2 rfl))
            rw [this] at t
            have t : (0 : Int) < ((0 : Nat) : Int) := t
            omega
          exact ⟨_, rfl, ys, em, small1000 (by omega), Same.app hpl sm, _, upd_same, by rw [List.length_append, ly]; show _ + 1 = _; omega⟩
        · have hi : ¬ i ≤ x := fun hi => by
            have hw : ws = [] := by
              cases ws with
              | nil => rfl
              | cons w0 wr => exact absurd (decide_eq_true (show (0 : Int) < (((w0 :: wr).length : Nat) : Int) by rw [List.length_cons]; omega)) t
            obtain ⟨bs, r⟩ := reach_down (js := js) (hs := hs) (m := i) (k := x - i) (by rw [show i + (x - i) = x by omega]; exact LG.2.1)
            exact g3.mp hw bs r
          exact ⟨sm, ys, em, by omega⟩
      rintro Hm ⟨sm, ys, em, ly⟩
      have lu : x + 1 ≤ us.length := by
        by_cases c : x = hs.length
        · rw [if_pos c] at ln; omega
        · rw [if_neg c] at ln; omega
      refine ⟨pl, ys, rfl, .inl (SqL.of em), _, _, rfl, rfl, ?_⟩
      have ev : ((ys.length : Nat) : Int) - 1 = (x : Int) := by omega
      dsimp only
      rw [ev]
      exact q x Hm ((s1.trans s2).trans sm) LG
theorem okx_plan {C CW CL CI f : Addr} {fd : FuncData} (F : Fun K "plan" "plan" s_plan f fd) (B : Blt0 mg) (T : LotC K mg C) (W : WalkC K mg CW) (p_shares : PropH P w K mg base C "shares" "_shares") (hWalk : HasM P w K mg base 3 CW ["self", "shares", "hands"] (spInitW K CW)) (hx_check_lot : HasX P w K mg base 3 "check_lot" ["lot"] (spCheckLotX K C CL)) (hx_check_counts : HasX P w K mg base 3 "check_counts" ["counts"] (spCheckCountsS K CI)) (h_any_way : Has P w K mg base 3 "any_way" ["walk"] (spAnyWayG K CW)) (h_ticks_of : Has P w K mg base 2 "ticks_of" ["way"] (spTicksOf K)) :
    FnOk P w K mg base (L2.CX P w) 6 f fd ["lot", "counts"] (spPlan K C CL CI) := by
  refine F.okX sc_plan (fun vs H Q E h => ?_) (fun cdv A outer s H vs Q E hr h => ?_)
  · obtain ⟨v, u, o, t, rfl, _⟩ := h; rfl
  obtain ⟨v, u, o, t, rfl, hv, hu, hG, q1, q2, q3⟩ := h
  have tk := takes_of (X := cxOf (L2.CX P w) P w K mg base ["lot", "counts"] "plan" (defScope s_plan) f cdv A outer s H E) (E := E) rfl rfl rfl rfl
  cases o with
  | none => exact ⟨_, pss_stop (ps_expr (pe_x hx_check_lot (hr.mono (by decide)) tk (pa_cons (pv 0) pa_nil))), _, rfl, v, none, rfl, hv, (fun z => by cases z), fun _ => q1 rfl⟩
  | some p =>
    obtain ⟨n, js⟩ := p
    obtain ⟨G, l0, l6⟩ := hG n js rfl
    obtain ⟨a, rfl, L⟩ := id hv
    cases ew : wrongC t with
    | some x => exact ⟨_, pss_cons (ps_expr (pe_x hx_check_lot (hr.mono (by decide)) tk (pa_cons (pv 0) pa_nil))) (pss_stop (ps_expr (pe_x hx_check_counts (hr.mono (by decide)) tk (pa_cons (pv 1) pa_nil)))), _, rfl, _, some (n, js), rfl, hv, (fun _ => ⟨_, rfl, u, t, rfl, hu, (fun z => by rw [ew] at z; cases z), fun x' ex => q2 n js x' rfl ex⟩), fun z => by cases z⟩
    | none =>
      obtain ⟨hs, rfl, h0, h60, hb⟩ := hs_of_wrong ew
      obtain ⟨c, rfl, hC⟩ := thing_hs hu
      have q := q3 n js hs rfl rfl h0 h60 hb
      refine ⟨_, (pss_cons (ps_expr (pe_x hx_check_lot (hr.mono (by decide)) tk (pa_cons (pv 0) pa_nil)))
      (pss_cons (ps_expr (pe_x hx_check_counts (hr.mono (by decide)) tk (pa_cons (pv 1) pa_nil)))
      (pss_one (ps_ret (pe_h h_ticks_of (hr.mono (by decide)) (pa_cons (pe_h h_any_way (hr.mono (by decide)) (pa_cons (pe_hm hWalk W.mgC (hr.mono (by decide)) (pa_cons (pe_ph p_shares T.cl (hr.mono (by decide)) (pv 0)) (pa_cons (pv 1) pa_nil))) pa_nil)) pa_nil)))))), _, rfl, _, some (n, js), rfl, hv, (fun _ => ⟨_, rfl, _, _, rfl, hu, (fun _ H1 s1 => ?_), fun x' ex => by rw [ew] at ex; cases ex⟩), fun z => by cases z⟩
      obtain ⟨dx0, pn, ps, pt, ha, h1, h2, h3⟩ := (L.mono s1).ex
      obtain ⟨ps2, xs, e, hS, hA⟩ := h2.tuple
      cases e
      refine ⟨_, rfl, lot_get ha lot_shares ⟨_, rfl, ?_⟩⟩
      intro wa dx hx hdx hnx
      have s3 : Same H1 (upd (upd H1 dx (.own wa)) wa (.ins CW dx [])) := fun a o e => by
        rw [upd_ne (ne_of_none e hx), upd_ne (ne_of_none e hdx)]; exact e
      refine ⟨wa, dx, ps, c, xs, js, hs, rfl, upd_same, sameT s3 hS, hA.mono s3, .inr (sameT (s1.trans s3) hC), G, l6, by omega, (fun m hm => by have := hb m hm; omega), fun H4 b4 WA => ⟨rfl, ?_⟩⟩
      have s04 := s1.trans (lot_same b4 hx hdx)
      refine ⟨wa, js, hs, rfl, WA, G, l6, by omega, fun al => .inl ⟨rfl, q _ H4 s04 (.inl ⟨al, rfl⟩)⟩, fun al p2 H5 hp2 s5 e5 => .inr ⟨p2, _, rfl, SqL.of e5, any_smallG G l6 al, by rw [anyN_len]; omega, fun p3 us H6 hp3 s6 e6 R6 => q _ H6 ((s04.trans s5).trans s6) (.inr ⟨al, p3, us, rfl, e6, R6⟩)⟩⟩
theorem okx_least {C CW CL CI f : Addr} {fd : FuncData} (F : Fun K "least_more" "least_more" s_least_more f fd) (B : Blt0 mg) (T : LotC K mg C) (W : WalkC K mg CW) (p_shares : PropH P w K mg base C "shares" "_shares") (hWalk : HasM P w K mg base 3 CW ["self", "shares", "hands"] (spInitW K CW)) (m_is_alive : HasD P w K mg base 1 CW "is_alive" ["self", "moment", "ahead"] (spAlive K CW)) (hx_check_lot : HasX P w K mg base 3 "check_lot" ["lot"] (spCheckLotX K C CL)) (hx_check_counts : HasX P w K mg base 3 "check_counts" ["counts"] (spCheckCountsS K CI)) :
    FnOk P w K mg base (L2.CX P w) 6 f fd ["lot", "counts"] (spLeast K C CL CI) := by
  refine F.okX sc_least_more (fun vs H Q E h => ?_) (fun cdv A outer s H vs Q E hr h => ?_)
  · obtain ⟨v, u, o, t, rfl, _⟩ := h; rfl
  obtain ⟨v, u, o, t, rfl, hv, hu, hG, q1, q2, q3⟩ := h
  have tk := takes_of (X := cxOf (L2.CX P w) P w K mg base ["lot", "counts", "more", "number"] "least_more" (defScope s_least_more) f cdv A outer s H E) (E := E) rfl rfl rfl rfl
  cases o with
  | none => exact ⟨_, pss_stop (ps_expr (pe_x hx_check_lot (hr.mono (by decide)) tk (pa_cons (pv 0) pa_nil))), _, rfl, v, none, rfl, hv, (fun z => by cases z), fun _ => q1 rfl⟩
  | some p =>
    obtain ⟨n, js⟩ := p
    obtain ⟨G, l0, l6⟩ := hG n js rfl
    obtain ⟨a, rfl, L⟩ := id hv
    cases ew : wrongC t with
    | some x => exact ⟨_, pss_cons (ps_expr (pe_x hx_check_lot (hr.mono (by decide)) tk (pa_cons (pv 0) pa_nil))) (pss_stop (ps_expr (pe_x hx_check_counts (hr.mono (by decide)) tk (pa_cons (pv 1) pa_nil)))), _, rfl, _, some (n, js), rfl, hv, (fun _ => ⟨_, rfl, u, t, rfl, hu, (fun z => by rw [ew] at z; cases z), fun x' ex => q2 n js x' rfl ex⟩), fun z => by cases z⟩
    | none =>
      obtain ⟨hs, rfl, h0, h60, hb⟩ := hs_of_wrong ew
      obtain ⟨c, rfl, hC⟩ := thing_hs hu
      have q := q3 n js hs rfl rfl h0 h60 hb
      refine ⟨_, (pss_cons (ps_expr (pe_x hx_check_lot (hr.mono (by decide)) tk (pa_cons (pv 0) pa_nil)))
      (pss_cons (ps_expr (pe_x hx_check_counts (hr.mono (by decide)) tk (pa_cons (pv 1) pa_nil)))
      (pss_cons (ps_set (i := 2) sc_least_more.nd rfl (.inr rfl) pe_int)
      (pss_cons (ps_while (passes_of rfl) (pt_not (pt_val (pe_hd m_is_alive W.cl (hr.mono (by decide)) (pe_hm hWalk W.mgC (hr.mono (by decide)) (pa_cons (pe_ph p_shares T.cl (hr.mono (by decide)) (pv 0)) (pa_cons (pe_lc (own := [("number", 3)]) rfl sc_least_more.nd (pi_tup (pv 1)) (blkOk_by (N := ["lot", "counts", "more", "number"]) (sc := defScope s_least_more) (own := [("number", 3)]) (by decide +kernel)) (fun _ _ _ _ _ => (pg_name (i := 3) sc_least_more.nd rfl (.inl rfl) (.inr rfl))) (fun _ _ _ _ _ => pts_nil) (fun _ _ _ _ _ => (pe_op op_add (pv 3) (pv 2)))) pa_nil))) (pa_cons pe_int (pa_cons pe_int pa_nil))))) (pss_one (ps_aug (i := 2) sc_least_more.nd rfl (.inr rfl) pe_int ip_add)))
      (pss_one (ps_ret (pv 2))))))), _, rfl, _, some (n, js), rfl, hv, (fun _ => ⟨_, rfl, _, _, rfl, hu, (fun _ H1 s1 => ?_), fun x' ex => by rw [ew] at ex; cases ex⟩), fun z => by cases z⟩
      obtain ⟨dx0, pn, ps, pt, ha, h1, h2, h3⟩ := L.ex
      obtain ⟨ps2, xs, e, hS, hA⟩ := h2.tuple
      cases e
      refine ⟨fun k σ Hn => ∃ y : Nat, k + y = js.length ∧ Same H Hn ∧ (∀ z, z < y → aliveB js (hs.map (· + z)) 0 0 = false) ∧ ∃ v3, σ = [some (.ref a), some (.ref c), some (.int (y : Int)), v3], ⟨js.length, 0, rfl, s1, fun z hz => by omega, _, rfl⟩, ?_⟩
      rintro k σ Hn ⟨y, hk, sn, hy, v3, rfl⟩
      have han := sn _ _ ha
      refine ⟨_, rfl, lot_get han lot_shares ⟨_, rfl, c, rfl, ⟨_, sameT sn hC⟩, fun pl hpl => ?_⟩⟩
      refine lc_tup (K := K) (a := c) (xs := natV hs) (fun i Hm => Same Hn Hm ∧ Hm pl = some (.lst (natV ((hs.take i).map (· + y))))) ⟨same_new hpl, upd_same⟩ (fun _ _ _ z => sameT (sn.trans z.1) hC) ?_ ?_
      · rintro i x Hm hx ⟨sm, em⟩
        rw [List.getElem?_map] at hx
        cases ec : hs[i]? with
        | none => rw [ec] at hx; cases hx
        | some m =>
        rw [ec] at hx
        cases Option.some.inj hx
        have il : i < hs.length := (List.getElem?_eq_some_iff.mp ec).1
        refine ⟨rfl, yesIf ⟨_, rfl, _, rfl, _, _, rfl, rfl, _, em, ?_, Same.app hpl sm, ?_⟩⟩
        · rw [List.length_map, List.length_map, List.length_take]; exact small1000 (by omega)
        · rw [upd_same, map_take_succ _ ec, natV, natV, List.map_append]; rfl
      rintro Hm ⟨sm, em⟩
      rw [List.length_map, List.take_length] at em
      have hll : (hs.map (· + y)).length = hs.length := List.length_map _
      have hbb : ∀ m ∈ hs.map (· + y), m ≤ 1000 := fun m hm => by
        obtain ⟨z, hz, rfl⟩ := List.mem_map.mp hm
        have := hb z hz
        show z + y ≤ 1000
        omega
      intro wa dx hx hdx hnx
      have sam := sn.trans sm
      have s3 : Same Hm (upd (upd Hm dx (.own wa)) wa (.ins CW dx [])) := fun a o e => by
        rw [upd_ne (ne_of_none e hx), upd_ne (ne_of_none e hdx)]; exact e
      refine ⟨wa, dx, ps, pl, xs, js, hs.map (· + y), rfl, upd_same, sameT (sam.trans s3) hS, hA.mono (sam.trans s3), .inl (SqL.of (s3 _ _ em)), G, l6, by omega, hbb, fun H4 b4 WA => ⟨rfl, ?_⟩⟩
      have s04 := sam.trans (lot_same b4 hx hdx)
      obtain ⟨dx4, fs4, ha4, WF4, _, _, la4, lc4, lb4, _⟩ := id WA.ex
      refine ⟨wa, dx4, fs4, rfl, ha4, la4, wa, 0, 0, js, hs.map (· + y), rfl, WA, Nat.zero_le _, _, rfl, ?_⟩
      cases al : aliveB js (hs.map (· + y)) 0 0 with
      | true => exact iteF ⟨_, rfl, q y H4 s04 ⟨al, hy⟩⟩
      | false =>
        have ly : y < js.length := Classical.byContradiction fun no => by
          rw [least_full (by omega)] at al; cases al
        refine iteT ⟨fun σ' H' => ∃ y : Nat, (k - 1) + y = js.length ∧ Same H H' ∧ (∀ z, z < y → aliveB js (hs.map (· + z)) 0 0 = false) ∧ ∃ v3, σ' = [some (.ref a), some (.ref c), some (.int (y : Int)), v3], fun σ' H' z => ⟨k - 1, by omega, z⟩, ?_⟩
        refine ⟨_, rfl, _, _, rfl, rfl, y + 1, by omega, s04, fun z hz => ?_, v3, rfl⟩
        by_cases c : z = y
        · rw [c]; exact al
        · exact hy z (by omega)
end
end Ts
namespace Ts
open PySem PySem.Spec PyProof.Rows L2
section
variable {P : Program} {w : World} {K : PySem.W.Frag} {mg : Str → Option Value} {base : Heap}
theorem has_cell (D : DefAt K mg "_law_cell" s__law_cell) (B : Blt0 mg) : Has P w K mg base 1 "_law_cell" ["_law_cells", "_law_spot"] (spCell K) := by
  refine D.has (fun _ _ _ _ _ _ us hl => match us, hl with | [_, _], _ => rfl) fun f fd F => F.ok sc__law_cell (fun vs H Q E h => ?_) (fun cdv A outer s H vs Q E hr h => ?_)
  · obtain ⟨a, ns, i, rfl, _⟩ := h; rfl
  obtain ⟨a, ns, i, rfl, hS, hl, hi, q⟩ := h
  refine ⟨_, (pss_cons (ps_if (pt_cmpR op_lt (pv 1) (pe_callB call_len_seq (by rfl) B.zlen (by decide +kernel) (pa_cons (pv 0) pa_nil)) (nomark _)) (pss_one (ps_ret (pe_callTy call_int1 (by rfl) B.zint (by decide +kernel) (pa_cons (pe_ix ix_list (pv 0) (pv 1) (fun _ _ => rfl)) pa_nil)))) pss_nil)
      (pss_cons (ps_set (i := 2) sc__law_cell.nd rfl (.inl rfl) (pe_op op_add (pe_op op_mul pe_int (pv 1)) pe_int))
      (pss_cons (ps_for PassesOwn.never rfl (pi_list (pe_slice sl_list (pv 0) po_none (po_some pe_int))) (pg_name (i := 3) sc__law_cell.nd rfl (.inl rfl)) (pss_one (ps_set (i := 2) sc__law_cell.nd rfl (.inl rfl) (pe_op op_mod (pe_callTy call_int1 (by rfl) B.zint (by decide +kernel) (pa_cons (pe_op op_add (pe_op op_add (pe_op op_mul (pv 2) pe_int) (pv 3)) pe_int) pa_nil)) pe_int))))
      (pss_one (ps_ret (pv 2)))))), ?_⟩
  refine ⟨_, rfl, _, rfl, a, _, rfl, .inl hS, _, _, rfl, rfl, _, rfl, ite2 (fun c => ?_) (fun c => ?_)⟩
  · have c' : i < ns.length := by
      have := of_decide_eq_true c
      rw [List.length_map] at this
      omega
    exact ⟨_, rfl, _, rfl, a, _, i, .int ns[i], rfl, rfl, hS, atI_nat (by rw [List.getElem?_map, List.getElem?_eq_getElem c']; rfl), .inl ⟨_, rfl, q _ H (Same.refl _)⟩⟩
  · refine ⟨_, rfl, _, _, rfl, rfl, .inl ⟨by decide, by decide⟩, _, _, rfl, rfl, ?_⟩
    refine ⟨_, rfl, _, rfl, a, _, rfl, hS, fun p hp => ?_⟩
    have s1 : Same H (upd H p (.lst (cutV (ns.map V.int) none (some 4)))) := same_new hp
    have e1 : (upd H p (.lst (cutV (ns.map V.int) none (some 4)))) p = some (.lst (cutV (ns.map V.int) none (some 4))) := upd_same
    revert s1 e1
    generalize upd H p (.lst (cutV (ns.map V.int) none (some 4))) = H1
    intro s1 e1
    refine ⟨p, rfl, ⟨_, SqL.of e1⟩, for_list (K := K) (a := p) (xs := cutV (ns.map V.int) none (some 4)) (fun _ σ H' => Same H1 H' ∧ ∃ (z : Int) (v : Option V), σ = [some (.ref a), some (.int i), some (.int z), v])
      ⟨Same.refl _, _, _, rfl⟩ (fun _ _ _ _ z => SqL.of (z.1 _ _ e1)) ?_ ?_⟩
    · rintro j x σ H' hx ⟨sm, z, v, rfl⟩
      obtain ⟨n, rfl⟩ : ∃ n, x = V.int n := by
        have m := List.mem_of_getElem? hx
        unfold cutV at m
        obtain ⟨n, _, e⟩ := List.mem_map.mp (List.mem_of_mem_drop (List.mem_of_mem_take m))
        exact ⟨n, e.symm⟩
      exact ⟨_, rfl, _, _, rfl, rfl, .inr ⟨by decide, by decide⟩, _, rfl, _, _, rfl, rfl, _, _, rfl, rfl, .inl ⟨_, rfl, _, _, rfl, rfl, (by decide : (0 : Int) < _), sm, _, _, rfl⟩⟩
    · rintro σ H' ⟨sm, z, v, rfl⟩
      exact ⟨_, rfl, q _ _ (s1.trans sm)⟩
theorem has_jar (D : DefAt K mg "_law_jar" s__law_jar) (B : Blt0 mg) (h__law_cell : Has P w K mg base 1 "_law_cell" ["_law_cells", "_law_spot"] (spCell K)) : Has P w K mg base 2 "_law_jar" ["_law_cells", "_law_spot"] (spBasin K) := by
  refine D.has (fun _ _ _ _ _ _ us hl => match us, hl with | [_, _], _ => rfl) fun f fd F => F.ok sc__law_jar (fun vs H Q E h => ?_) (fun cdv A outer s H vs Q E hr h => ?_)
  · obtain ⟨a, ns, i, rfl, _⟩ := h; rfl
  obtain ⟨a, ns, i, rfl, hS, hl, hi, q⟩ := h
  refine ⟨_, (pss_cons (ps_set (i := 2) sc__law_jar.nd rfl (.inl rfl) (pe_callB call_abs (by rfl) B.zabs (by decide +kernel) (pa_cons (pe_h h__law_cell (hr.mono (by decide)) (pa_cons (pv 0) (pa_cons (pv 1) pa_nil))) pa_nil)))
      (pss_one (ps_ret (pe_lst (pa_cons (pv 2) (pa_cons (pe_op op_mod (pe_callTy call_int1 (by rfl) B.zint (by decide +kernel) (pa_cons (pe_op op_add (pv 2) (pe_op op_mul pe_int (pv 1))) pa_nil)) pe_int) (pa_cons pe_int pa_nil))))))), ?_⟩
  refine ⟨_, rfl, _, rfl, a, ns, i, rfl, hS, hl, by omega, fun x H1 s1 => ?_⟩
  refine ⟨_, rfl, ?_⟩
  refine ⟨_, rfl, _, rfl, _, rfl, _, _, rfl, rfl, .inl ⟨by decide, by decide⟩, _, _, rfl, rfl, .inl ⟨_, rfl, _, _, rfl, rfl, (by decide : (0 : Int) < _), by show 3 ≤ sizeLine; decide, fun p hp => ?_⟩⟩
  exact q p _ (s1.free hp) (s1.trans (same_new hp)) ⟨_, _, _, upd_same⟩
theorem has_dig (D : DefAt K mg "_law_dig" s__law_dig) (B : Blt0 mg) : Has P w K mg base 1 "_law_dig" ["_law_jar_here", "_law_many"] spLadle := by
  refine D.has (fun _ _ _ _ _ _ us hl => match us, hl with | [_, _], _ => rfl) fun f fd F => F.ok sc__law_dig (fun vs H Q E h => ?_) (fun cdv A outer s H vs Q E hr h => ?_)
  · obtain ⟨b, m, rfl, _⟩ := h; rfl
  obtain ⟨b, m, rfl, ⟨x, y, z, hb⟩, hm0, hm1, q⟩ := h
  refine ⟨_, (pss_cons (ps_asg (pe_op op_add (pe_ix ix_list (pv 0) pe_int (fun _ _ => rfl)) pe_int) (pg_sub (pv 0) pe_int set_list))
      (pss_cons (ps_set (i := 2) sc__law_dig.nd rfl (.inl rfl) (pe_callTy call_int1 (by rfl) B.zint (by decide +kernel) (pa_cons (pe_ix ix_list (pv 0) pe_int (fun _ _ => rfl)) pa_nil)))
      (pss_cons (ps_asg (pe_op op_mod (pe_callTy call_int1 (by rfl) B.zint (by decide +kernel) (pa_cons (pe_op op_add (pe_op op_add (pe_op op_mul (pv 2) (pe_op op_add (pe_op op_mod (pe_callTy call_int1 (by rfl) B.zint (by decide +kernel) (pa_cons (pv 2) pa_nil)) pe_int) pe_int)) (pe_op op_mul (pe_ix ix_list (pv 0) pe_int (fun _ _ => rfl)) pe_int)) pe_int) pa_nil)) pe_int) (pg_sub (pv 0) pe_int set_list))
      (pss_cons (ps_if (pt_cmpR op_gt (pe_ix ix_list (pv 0) pe_int (fun _ _ => rfl)) pe_int (nomark _)) (pss_cons (ps_asg (pe_callB call_divmod (by rfl) B.zdivmod (by decide +kernel) (pa_cons (pe_ix ix_list (pv 0) pe_int (fun _ _ => rfl)) (pa_cons (pv 1) pa_nil))) (pg_tup rfl (pgs_cons (pg_sub (pv 0) pe_int set_list) (pgs_cons (pg_name (i := 3) sc__law_dig.nd rfl (.inl rfl)) pgs_nil))))
      (pss_one (ps_ret (pv 3)))) pss_nil)
      (pss_one (ps_ret (pe_op op_mod (pe_callTy call_int1 (by rfl) B.zint (by decide +kernel) (pa_cons (pe_op op_fdiv (pe_ix ix_list (pv 0) pe_int (fun _ _ => rfl)) pe_int) pa_nil)) (pv 1)))))))), ?_⟩
  -- b[2] = b[2] + 1
  refine ⟨_, rfl, b, _, 2, .int z, rfl, rfl, SqL.of hb, rfl, _, _, rfl, rfl, _, rfl, b, _, 2, 2, rfl, rfl, hb, rfl, ?_⟩
  have b1 : But b H (upd H b (.lst ([V.int x, V.int y, V.int z].set 2 (V.int (z + 1))))) := But.set
  have e1 : (upd H b (.lst ([V.int x, V.int y, V.int z].set 2 (V.int (z + 1))))) b = some (.lst [.int x, .int y, .int (z + 1)]) := upd_same
  revert b1 e1
  generalize upd H b (.lst ([V.int x, V.int y, V.int z].set 2 (V.int (z + 1)))) = H1
  intro b1 e1
  -- mixed
  refine ⟨_, rfl, b, _, 1, .int y, rfl, rfl, SqL.of e1, rfl, .inl ⟨_, rfl, ?_⟩⟩
  -- b[1] = ..
  have hpos : (0 : Int) < 29989 := by decide
  have r0 := Int.emod_nonneg y (show (29989 : Int) ≠ 0 by decide)
  have r1 := Int.emod_lt_of_pos y hpos
  refine ⟨_, rfl, _, rfl, .inl ⟨_, rfl, _, _, rfl, rfl, hpos, _, _, rfl, rfl, _, _, rfl, rfl, .inr ⟨by omega, by omega⟩, _, rfl, b, _, 2, .int (z + 1), rfl, rfl, SqL.of e1, rfl, _, _, rfl, rfl, .inr ⟨by decide, by decide⟩, _, _, rfl, rfl, _, _, rfl, rfl, .inl ⟨_, rfl, _, _, rfl, rfl, (by decide : (0 : Int) < _), _, rfl, b, _, 1, 1, rfl, rfl, e1, rfl, ?_⟩⟩⟩
  obtain ⟨y2, hy2⟩ : ∃ y2, y2 = (y * (y % 29989 + 40013) + (z + 1) * 65521 + 7) % 2147483587 := ⟨_, rfl⟩
  have b2 : But b H (upd H1 b (.lst ([V.int x, V.int y, V.int (z + 1)].set 1 (V.int y2)))) := b1.trans But.set
  have e2 : (upd H1 b (.lst ([V.int x, V.int y, V.int (z + 1)].set 1 (V.int y2)))) b = some (.lst [.int x, .int y2, .int (z + 1)]) := upd_same
  revert b2 e2
  rw [hy2]
  generalize upd H1 b (.lst ([V.int x, V.int y, V.int (z + 1)].set 1 (V.int ((y * (y % 29989 + 40013) + (z + 1) * 65521 + 7) % 2147483587)))) = H2
  rw [← hy2]
  intro b2 e2
  refine ⟨_, rfl, b, _, 0, .int x, rfl, rfl, SqL.of e2, rfl, _, _, rfl, rfl, _, rfl, ?_⟩
  refine ite2 (fun c => ?_) (fun c => ?_)
  · refine ⟨_, rfl, b, _, 0, .int x, rfl, rfl, SqL.of e2, rfl, _, rfl, x, m, rfl, ⟨hm0, hm1⟩, fun p hp => ?_⟩
    have hbp : b ≠ p := ne_of_none e2 hp
    refine ⟨p, _, rfl, SqT.of upd_same, rfl, _, _, rfl, _, rfl, b, [.int x, .int y2, .int (z + 1)], 0, 0, rfl, rfl, (by rw [upd_ne hbp]; exact e2), rfl, ?_⟩
    refine ⟨_, _, rfl, rfl, _, rfl, q _ _ (Int.emod_nonneg _ (by omega)) (Int.emod_lt_of_pos _ hm0) ?_ ⟨_, _, _, upd_same⟩⟩
    exact b2.trans ((But.of_same (same_new hp)).trans But.set)
  · exact ⟨_, rfl, b, _, 1, _, rfl, rfl, SqL.of e2, rfl, _, _, rfl, rfl, ⟨by decide, by decide⟩, .inl ⟨_, rfl, _, rfl, _, _, rfl, rfl, hm0, q _ _ (Int.emod_nonneg _ (by omega)) (Int.emod_lt_of_pos _ hm0) b2 ⟨_, _, _, e2⟩⟩⟩
theorem has_take (D : DefAt K mg "_law_take" s__law_take) (B : Blt0 mg) (h__law_dig : Has P w K mg base 1 "_law_dig" ["_law_jar_here", "_law_many"] spLadle) : Has P w K mg base 2 "_law_take" ["_law_jar_here", "_law_some"] (spTakeJ K) := by
  refine D.has (fun _ _ _ _ _ _ us hl => match us, hl with | [_, _], _ => rfl) fun f fd F => F.ok sc__law_take (fun vs H Q E h => ?_) (fun cdv A outer s H vs Q E hr h => ?_)
  · obtain ⟨b, p, xs, rfl, _⟩ := h; rfl
  obtain ⟨b, p, xs, rfl, hB, hS, l0, l1, q⟩ := h
  refine ⟨_, (pss_one (ps_ret (pe_ix ix_list (pv 1) (pe_h h__law_dig (hr.mono (by decide)) (pa_cons (pv 0) (pa_cons (pe_callB call_len_seq (by rfl) B.zlen (by decide +kernel) (pa_cons (pv 1) pa_nil)) pa_nil))) (fun _ _ => rfl)))), ?_⟩
  refine ⟨_, rfl, _, rfl, _, rfl, p, _, rfl, .inl (hid_sub.seq hS), b, _, rfl, hB, by omega, by omega, fun r H1 r0 r1 b1 B1 => ?_⟩
  obtain ⟨v, hv, mv⟩ := atI_in (xs := xs) r0 r1
  exact ⟨p, xs, r, v, rfl, rfl, hid_sub.seq (b1.hid.seq hS), hv, q v H1 mv b1 B1⟩
end
end Ts
namespace Ts
open PySem PySem.Spec PyProof.Rows L2
section
variable {P : Program} {w : World} {K : PySem.W.Frag} {mg : Str → Option Value} {base : Heap}
theorem has_lotJ (D : DefAt K mg "_law_lot" s__law_lot) (B : Blt0 mg) (h__law_dig : Has P w K mg base 1 "_law_dig" ["_law_jar_here", "_law_many"] spLadle) (h__law_take : Has P w K mg base 2 "_law_take" ["_law_jar_here", "_law_some"] (spTakeJ K)) : Has P w K mg base 3 "_law_lot" ["_law_jar_here", "_law_most"] (spLotJ K) := by
  refine D.has (fun _ _ _ _ _ _ us hl => match us, hl with | [_, _], _ => rfl) fun f fd F => F.ok sc__law_lot (fun vs H Q E h => ?_) (fun cdv A outer s H vs Q E hr h => ?_)
  · obtain ⟨b, m, rfl, _⟩ := h; rfl
  obtain ⟨b, m, rfl, hB, hm0, hm1, q⟩ := h
  refine ⟨_, (pss_cons (ps_set (i := 2) sc__law_lot.nd rfl (.inr rfl) (pe_lst (pa_cons (pe_tup (pa_cons pe_int (pa_cons pe_int pa_nil))) (pa_cons (pe_tup (pa_cons pe_int (pa_cons pe_int pa_nil))) (pa_cons (pe_tup (pa_cons pe_int (pa_cons pe_int pa_nil))) (pa_cons (pe_tup (pa_cons pe_int (pa_cons pe_int pa_nil))) (pa_cons (pe_tup (pa_cons pe_int (pa_cons pe_int pa_nil))) (pa_cons (pe_tup (pa_cons pe_int (pa_cons pe_int pa_nil))) (pa_cons (pe_tup (pa_cons pe_int (pa_cons pe_int pa_nil))) (pa_cons (pe_tup (pa_cons pe_int (pa_cons pe_int pa_nil))) (pa_cons (pe_tup (pa_cons pe_int (pa_cons pe_int pa_nil))) (pa_cons (pe_tup (pa_cons pe_int (pa_cons pe_int pa_nil))) pa_nil))))))))))))
      (pss_cons (ps_set (i := 3) sc__law_lot.nd rfl (.inr rfl) (pe_h h__law_take (hr.mono (by decide)) (pa_cons (pv 0) (pa_cons (pe_lst (pa_cons (pe_lst (pa_cons pe_str (pa_cons pe_str (pa_cons pe_str (pa_cons pe_str pa_nil))))) (pa_cons (pe_lst (pa_cons pe_str (pa_cons pe_str (pa_cons pe_str (pa_cons pe_str pa_nil))))) (pa_cons (pe_lst (pa_cons pe_str (pa_cons pe_str (pa_cons pe_str (pa_cons pe_str pa_nil))))) pa_nil)))) pa_nil))))
      (pss_cons (ps_set (i := 4) sc__law_lot.nd rfl (.inl rfl) (pe_op op_add pe_int (pe_h h__law_dig (hr.mono (by decide)) (pa_cons (pv 0) (pa_cons (pv 1) pa_nil)))))
      (pss_one (ps_ret (pe_tup (pa_cons (pe_op op_add pe_int (pe_h h__law_dig (hr.mono (by decide)) (pa_cons (pv 0) (pa_cons pe_int pa_nil)))) (pa_cons (pe_lc (own := [("_law_k", 5)]) rfl sc__law_lot.nd (pi_range1 (by rfl) B.zrange (pa_cons (pv 4) pa_nil)) (blkOk_by (N := ["_law_jar_here", "_law_most", "_law_menu", "_law_tags", "_law_many", "_law_k"]) (sc := defScope s__law_lot) (own := [("_law_k", 5)]) (by decide +kernel)) (fun _ _ _ _ _ => (pg_name (i := 5) sc__law_lot.nd rfl (.inl rfl) (.inr rfl))) (fun _ _ _ _ _ => pts_nil) (fun _ _ _ _ _ => (pe_tup (pa_cons (pe_ix (ixL (K := K) rfl) (pv 3) (pv 5) (fun _ _ => rfl)) (pa_cons (pe_h h__law_take (hr.mono (by decide)) (pa_cons (pv 0) (pa_cons (pv 2) pa_nil))) pa_nil))))) pa_nil)))))))), ?_⟩
  have A0 : DpAll K H [] [] := .nil
  have s0 : Same H H := Same.refl _
  refine ⟨by show 2 ≤ sizeLine; decide, fun p1 hp1 => ?_⟩
  have t1 : Same H (upd H p1 (.tup [.int 1, .int 1])) := same_new hp1
  have e1 : (upd H p1 (.tup [V.int 1, .int 1])) p1 = some (.tup [.int ((1 : Nat) : Int), .int ((1 : Nat) : Int)]) := upd_same
  have A1 : DpAll K (upd H p1 (.tup [.int 1, .int 1])) [.ref p1] [partD 1 1] := (A0.mono t1).snoc (.tup (SqT.of e1) (.cons (.int _) (.cons (.int _) .nil)))
  have s1 := s0.trans t1
  revert A1 s1
  clear t1 e1
  generalize upd H p1 (.tup [.int 1, .int 1]) = H1
  intro A1 s1
  refine ⟨by show 2 ≤ sizeLine; decide, fun p2 hp2 => ?_⟩
  have t2 : Same H1 (upd H1 p2 (.tup [.int 1, .int 2])) := same_new hp2
  have e2 : (upd H1 p2 (.tup [V.int 1, .int 2])) p2 = some (.tup [.int ((1 : Nat) : Int), .int ((2 : Nat) : Int)]) := upd_same
  have A2 : DpAll K (upd H1 p2 (.tup [.int 1, .int 2])) [.ref p1, .ref p2] [partD 1 1, partD 1 2] := (A1.mono t2).snoc (.tup (SqT.of e2) (.cons (.int _) (.cons (.int _) .nil)))
  have s2 := s1.trans t2
  revert A2 s2
  clear t2 e2
  generalize upd H1 p2 (.tup [.int 1, .int 2]) = H2
  intro A2 s2
  refine ⟨by show 2 ≤ sizeLine; decide, fun p3 hp3 => ?_⟩
  have t3 : Same H2 (upd H2 p3 (.tup [.int 1, .int 3])) := same_new hp3
  have e3 : (upd H2 p3 (.tup [V.int 1, .int 3])) p3 = some (.tup [.int ((1 : Nat) : Int), .int ((3 : Nat) : Int)]) := upd_same
  have A3 : DpAll K (upd H2 p3 (.tup [.int 1, .int 3])) [.ref p1, .ref p2, .ref p3] [partD 1 1, partD 1 2, partD 1 3] := (A2.mono t3).snoc (.tup (SqT.of e3) (.cons (.int _) (.cons (.int _) .nil)))
  have s3 := s2.trans t3
  revert A3 s3
  clear t3 e3
  generalize upd H2 p3 (.tup [.int 1, .int 3]) = H3
  intro A3 s3
  refine ⟨by show 2 ≤ sizeLine; decide, fun p4 hp4 => ?_⟩
  have t4 : Same H3 (upd H3 p4 (.tup [.int 2, .int 3])) := same_new hp4
  have e4 : (upd H3 p4 (.tup [V.int 2, .int 3])) p4 = some (.tup [.int ((2 : Nat) : Int), .int ((3 : Nat) : Int)]) := upd_same
  have A4 : DpAll K (upd H3 p4 (.tup [.int 2, .int 3])) [.ref p1, .ref p2, .ref p3, .ref p4] [partD 1 1, partD 1 2, partD 1 3, partD 2 3] := (A3.mono t4).snoc (.tup (SqT.of e4) (.cons (.int _) (.cons (.int _) .nil)))
  have s4 := s3.trans t4
  revert A4 s4
  clear t4 e4
  generalize upd H3 p4 (.tup [.int 2, .int 3]) = H4
  intro A4 s4
  refine ⟨by show 2 ≤ sizeLine; decide, fun p5 hp5 => ?_⟩
  have t5 : Same H4 (upd H4 p5 (.tup [.int 1, .int 4])) := same_new hp5
  have e5 : (upd H4 p5 (.tup [V.int 1, .int 4])) p5 = some (.tup [.int ((1 : Nat) : Int), .int ((4 : Nat) : Int)]) := upd_same
  have A5 : DpAll K (upd H4 p5 (.tup [.int 1, .int 4])) [.ref p1, .ref p2, .ref p3, .ref p4, .ref p5] [partD 1 1, partD 1 2, partD 1 3, partD 2 3, partD 1 4] := (A4.mono t5).snoc (.tup (SqT.of e5) (.cons (.int _) (.cons (.int _) .nil)))
  have s5 := s4.trans t5
  revert A5 s5
  clear t5 e5
  generalize upd H4 p5 (.tup [.int 1, .int 4]) = H5
  intro A5 s5
  refine ⟨by show 2 ≤ sizeLine; decide, fun p6 hp6 => ?_⟩
  have t6 : Same H5 (upd H5 p6 (.tup [.int 3, .int 4])) := same_new hp6
  have e6 : (upd H5 p6 (.tup [V.int 3, .int 4])) p6 = some (.tup [.int ((3 : Nat) : Int), .int ((4 : Nat) : Int)]) := upd_same
  have A6 : DpAll K (upd H5 p6 (.tup [.int 3, .int 4])) [.ref p1, .ref p2, .ref p3, .ref p4, .ref p5, .ref p6] [partD 1 1, partD 1 2, partD 1 3, partD 2 3, partD 1 4, partD 3 4] := (A5.mono t6).snoc (.tup (SqT.of e6) (.cons (.int _) (.cons (.int _) .nil)))
  have s6 := s5.trans t6
  revert A6 s6
  clear t6 e6
  generalize upd H5 p6 (.tup [.int 3, .int 4]) = H6
  intro A6 s6
  refine ⟨by show 2 ≤ sizeLine; decide, fun p7 hp7 => ?_⟩
  have t7 : Same H6 (upd H6 p7 (.tup [.int 1, .int 6])) := same_new hp7
  have e7 : (upd H6 p7 (.tup [V.int 1, .int 6])) p7 = some (.tup [.int ((1 : Nat) : Int), .int ((6 : Nat) : Int)]) := upd_same
  have A7 : DpAll K (upd H6 p7 (.tup [.int 1, .int 6])) [.ref p1, .ref p2, .ref p3, .ref p4, .ref p5, .ref p6, .ref p7] [partD 1 1, partD 1 2, partD 1 3, partD 2 3, partD 1 4, partD 3 4, partD 1 6] := (A6.mono t7).snoc (.tup (SqT.of e7) (.cons (.int _) (.cons (.int _) .nil)))
  have s7 := s6.trans t7
  revert A7 s7
  clear t7 e7
  generalize upd H6 p7 (.tup [.int 1, .int 6]) = H7
  intro A7 s7
  refine ⟨by show 2 ≤ sizeLine; decide, fun p8 hp8 => ?_⟩
  have t8 : Same H7 (upd H7 p8 (.tup [.int 5, .int 6])) := same_new hp8
  have e8 : (upd H7 p8 (.tup [V.int 5, .int 6])) p8 = some (.tup [.int ((5 : Nat) : Int), .int ((6 : Nat) : Int)]) := upd_same
  have A8 : DpAll K (upd H7 p8 (.tup [.int 5, .int 6])) [.ref p1, .ref p2, .ref p3, .ref p4, .ref p5, .ref p6, .ref p7, .ref p8] [partD 1 1, partD 1 2, partD 1 3, partD 2 3, partD 1 4, partD 3 4, partD 1 6, partD 5 6] := (A7.mono t8).snoc (.tup (SqT.of e8) (.cons (.int _) (.cons (.int _) .nil)))
  have s8 := s7.trans t8
  revert A8 s8
  clear t8 e8
  generalize upd H7 p8 (.tup [.int 5, .int 6]) = H8
  intro A8 s8
  refine ⟨by show 2 ≤ sizeLine; decide, fun p9 hp9 => ?_⟩
  have t9 : Same H8 (upd H8 p9 (.tup [.int 1, .int 2])) := same_new hp9
  have e9 : (upd H8 p9 (.tup [V.int 1, .int 2])) p9 = some (.tup [.int ((1 : Nat) : Int), .int ((2 : Nat) : Int)]) := upd_same
  have A9 : DpAll K (upd H8 p9 (.tup [.int 1, .int 2])) [.ref p1, .ref p2, .ref p3, .ref p4, .ref p5, .ref p6, .ref p7, .ref p8, .ref p9] [partD 1 1, partD 1 2, partD 1 3, partD 2 3, partD 1 4, partD 3 4, partD 1 6, partD 5 6, partD 1 2] := (A8.mono t9).snoc (.tup (SqT.of e9) (.cons (.int _) (.cons (.int _) .nil)))
  have s9 := s8.trans t9
  revert A9 s9
  clear t9 e9
  generalize upd H8 p9 (.tup [.int 1, .int 2]) = H9
  intro A9 s9
  refine ⟨by show 2 ≤ sizeLine; decide, fun p10 hp10 => ?_⟩
  have t10 : Same H9 (upd H9 p10 (.tup [.int 2, .int 3])) := same_new hp10
  have e10 : (upd H9 p10 (.tup [V.int 2, .int 3])) p10 = some (.tup [.int ((2 : Nat) : Int), .int ((3 : Nat) : Int)]) := upd_same
  have A10 : DpAll K (upd H9 p10 (.tup [.int 2, .int 3])) [.ref p1, .ref p2, .ref p3, .ref p4, .ref p5, .ref p6, .ref p7, .ref p8, .ref p9, .ref p10] [partD 1 1, partD 1 2, partD 1 3, partD 2 3, partD 1 4, partD 3 4, partD 1 6, partD 5 6, partD 1 2, partD 2 3] := (A9.mono t10).snoc (.tup (SqT.of e10) (.cons (.int _) (.cons (.int _) .nil)))
  have s10 := s9.trans t10
  revert A10 s10
  clear t10 e10
  generalize upd H9 p10 (.tup [.int 2, .int 3]) = H10
  intro A10 s10
  refine ⟨by show 10 ≤ sizeLine; decide, fun pm hpm => ?_⟩
  obtain ⟨M, hM⟩ : ∃ M : List V, M = [.ref p1, .ref p2, .ref p3, .ref p4, .ref p5, .ref p6, .ref p7, .ref p8, .ref p9, .ref p10] := ⟨_, rfl⟩
  have AM : DpAll K H10 M (menuL.map fun q => partD q.1 q.2) := by rw [hM]; exact A10
  have lM : M.length = 10 := by rw [hM]; rfl
  have tm : Same H10 (upd H10 pm (.lst M)) := same_new hpm
  have em : (upd H10 pm (.lst M)) pm = some (.lst M) := upd_same
  show tSeq _ _ _ _ (upd H10 pm (.lst [.ref p1, .ref p2, .ref p3, .ref p4, .ref p5, .ref p6, .ref p7, .ref p8, .ref p9, .ref p10]))
  rw [← hM]
  have AM2 := AM.mono tm
  have s11 := s10.trans tm
  have B11 := hB.on s11
  have npm : pm ≠ b := (hB.on s10).off hpm
  revert em AM2 s11 B11
  generalize upd H10 pm (.lst M) = H11
  intro em AM2 s11 B11
  clear AM tm hpm A10 hM A9 A8 A7 A6 A5 A4 A3 A2 A1 A0
  -- the names
  refine ⟨_, rfl, by show 4 ≤ sizeLine; decide, fun l1 hl1 => ⟨by show 4 ≤ sizeLine; decide, fun l2 hl2 => ⟨by show 4 ≤ sizeLine; decide, fun l3 hl3 => ⟨by show 3 ≤ sizeLine; decide, fun pl hpl => ?_⟩⟩⟩⟩
  have g1 : Same H11 (upd H11 l1 (.lst [.str "a", .str "b", .str "c", .str "d"])) := same_new hl1
  have nb1 := B11.off hl1
  have B12 := B11.on g1
  have f1 : (upd H11 l1 (.lst [V.str "a", .str "b", .str "c", .str "d"])) l1 = some (.lst [.str "a", .str "b", .str "c", .str "d"]) := upd_same
  revert g1 f1 B12
  generalize upd H11 l1 (.lst [.str "a", .str "b", .str "c", .str "d"]) = H12 at *
  intro g1 B12 f1
  have g2 : Same H12 (upd H12 l2 (.lst [.str "zoe", .str "bob", .str "ann", .str "cat"])) := same_new hl2
  have nb2 := B12.off hl2
  have B13 := B12.on g2
  have f2 : (upd H12 l2 (.lst [V.str "zoe", .str "bob", .str "ann", .str "cat"])) l2 = some (.lst [.str "zoe", .str "bob", .str "ann", .str "cat"]) := upd_same
  revert g2 f2 B13
  generalize upd H12 l2 (.lst [.str "zoe", .str "bob", .str "ann", .str "cat"]) = H13 at *
  intro g2 B13 f2
  have g3 : Same H13 (upd H13 l3 (.lst [.str "hands", .str "work", .str "q", .str "x"])) := same_new hl3
  have nb3 := B13.off hl3
  have B14 := B13.on g3
  have f3 : (upd H13 l3 (.lst [V.str "hands", .str "work", .str "q", .str "x"])) l3 = some (.lst [.str "hands", .str "work", .str "q", .str "x"]) := upd_same
  revert g3 f3 B14
  generalize upd H13 l3 (.lst [.str "hands", .str "work", .str "q", .str "x"]) = H14 at *
  intro g3 B14 f3
  have g4 : Same H14 (upd H14 pl (.lst [.ref l1, .ref l2, .ref l3])) := same_new hpl
  have nb4 := B14.off hpl
  have B15 := B14.on g4
  have f4 : (upd H14 pl (.lst [.ref l1, .ref l2, .ref l3])) pl = some (.lst [.ref l1, .ref l2, .ref l3]) := upd_same
  revert g4 f4 B15
  generalize upd H14 pl (.lst [.ref l1, .ref l2, .ref l3]) = H15 at *
  intro g4 B15 f4
  have TT : ∀ v ∈ [V.ref l1, .ref l2, .ref l3], ∃ (l : Addr) (ts : List Str), v = .ref l ∧ ts ∈ tagsL ∧ H15 l = some (.lst (ts.map V.str)) ∧ l ≠ b := fun v hv => by
    simp only [List.mem_cons, List.not_mem_nil, or_false] at hv
    rcases hv with rfl | rfl | rfl
    · exact ⟨l1, _, rfl, List.mem_cons_self, (g2.trans (g3.trans g4)) _ _ f1, nb1⟩
    · exact ⟨l2, _, rfl, List.mem_cons_of_mem _ List.mem_cons_self, (g3.trans g4) _ _ f2, nb2⟩
    · exact ⟨l3, _, rfl, List.mem_cons_of_mem _ (List.mem_cons_of_mem _ List.mem_cons_self), g4 _ _ f3, nb3⟩
  have g14 := g1.trans (g2.trans (g3.trans g4))
  have em15 := g14 _ _ em
  have AM15 := AM2.mono g14
  have s15 := s11.trans g14
  clear g1 g2 g3 g4 g14 f1 f2 f3 nb1 nb2 nb3 B14 B13 B12 AM2 em s11 B11 hpl hl1 hl2 hl3
  refine ⟨b, pl, [.ref l1, .ref l2, .ref l3], rfl, B15, SqL.of (by rw [hid_ne nb4]; exact f4), by show 0 < 3; decide, by show 3 ≤ 1000; decide, fun v H16 mv b16 B16 => ?_⟩
  obtain ⟨lt, ts, rfl, hts, et, nlt⟩ := TT v mv
  obtain ⟨tl4, tnd, ttag⟩ := tags_ok ts hts
  have e16 := b16 _ _ nlt et
  have em16 := b16 _ _ npm em15
  obtain ⟨x5, y5, z5, eb5⟩ := id B15
  have tsp : ∀ d ∈ menuL.map (fun q => partD q.1 q.2), TupS d := fun d hd => by
    obtain ⟨q, _, rfl⟩ := List.mem_map.mp hd
    exact tupS_part _ _
  have AM16 := dpa_butS eb5 b16 tsp AM15
  have b06 : But b H H16 := (But.of_same s15).trans b16
  clear et em15 AM15 TT f4 eb5 b16 B15 s15 mv
  -- many
  refine ⟨_, rfl, _, rfl, b, (m : Int), rfl, B16, by omega, by omega, fun r H17 r0 r1 b17 B17 => ?_⟩
  obtain ⟨k0, rfl⟩ := Int.eq_ofNat_of_zero_le r0
  obtain ⟨mk, hmk⟩ : ∃ mk : Nat, (1 : Int) + (k0 : Int) = (mk : Int) := ⟨1 + k0, by omega⟩
  refine ⟨_, _, rfl, rfl, ?_⟩
  dsimp only
  rw [hmk]
  have mk1 : 1 ≤ mk := by omega
  have mk4 : mk ≤ m := by omega
  have b07 := b06.trans b17
  have e17 := b17 _ _ nlt e16
  have em17 := b17 _ _ npm em16
  obtain ⟨x6, y6, z6, eb6⟩ := id B16
  have AM17 := dpa_butS eb6 b17 tsp AM16
  clear eb6 e16 em16 AM16 b06 b17 B16 r0 r1
  -- the hands
  refine ⟨_, rfl, b, 3, rfl, B17, by decide, by decide, fun r H18 r0 r1 b18 B18 => ?_⟩
  obtain ⟨n0, rfl⟩ := Int.eq_ofNat_of_zero_le r0
  obtain ⟨n, hn⟩ : ∃ n : Nat, (1 : Int) + (n0 : Int) = (n : Int) := ⟨1 + n0, by omega⟩
  have b08 := b07.trans b18
  have e18 := b18 _ _ nlt e17
  have em18 := b18 _ _ npm em17
  obtain ⟨x7, y7, z7, eb7⟩ := id B17
  have AM18 := dpa_butS eb7 b18 tsp AM17
  clear eb7 e17 em17 AM17 b07 b18 B17
  refine ⟨_, _, rfl, rfl, _, rfl, _, rfl, by omega, by omega, fun D2 hD2 => ?_⟩
  have nD := B18.off hD2
  have nlD : lt ≠ D2 := ne_of_none e18 hD2
  have nmD : pm ≠ D2 := ne_of_none em18 hD2
  refine lc_range (lo := 0) (n := ((mk : Nat) : Int).toNat) (fun i Hm => But b H18 Hm ∧ Bas Hm b ∧ DpAll K Hm M (menuL.map fun q => partD q.1 q.2) ∧ ∃ (js : List Job) (us : List V), js.length = i ∧ js.map (·.1) = ts.take i ∧ (∀ j ∈ js, GoodPart 16 j.2.1 j.2.2 ∧ j.2.2 ∣ 12) ∧ Hm D2 = some (.lst us) ∧ DpAll K Hm us (js.map jobD))
    ⟨But.of_same (same_new hD2), B18.on (same_new hD2), AM18.mono (same_new hD2), [], [], rfl, rfl, by simp, upd_same, .nil⟩ ?_ ?_
  · rintro i Hm hi ⟨bm, Bm, Am, js, us, ljs, ejs, gjs, eD, dD⟩
    have im : i < mk := by simpa using hi
    have ei : (0 : Int) + (i : Int) = ((i : Nat) : Int) := by omega
    rw [ei]
    have it : i < ts.length := by omega
    refine ⟨rfl, yesIf ⟨_, rfl, _, rfl, lt, _, ((i : Nat) : Int), .str (ts[i]), rfl, rfl, SqL.of (bm _ _ nlt e18), atI_nat (by rw [List.getElem?_map, List.getElem?_eq_getElem it]; rfl), ?_⟩⟩
    refine ⟨_, rfl, _, rfl, b, pm, M, rfl, Bm, SqL.of (by rw [hid_ne npm]; exact bm _ _ npm em18), by rw [lM]; decide, by rw [lM]; decide, fun v Hn mv bn Bn => ?_⟩
    obtain ⟨x8, y8, z8, eb8⟩ := id Bm
    have An := dpa_butS eb8 bn tsp Am
    have eDn := bn _ _ nD eD
    have dDn := dpa_butS eb8 bn tupS_jobs dD
    obtain ⟨c, hc⟩ := List.mem_iff_getElem?.mp mv
    obtain ⟨d, hd, hv⟩ := An.get hc
    rw [List.getElem?_map] at hd
    cases ec : menuL[c]? with
    | none => rw [ec] at hd; cases hd
    | some qp =>
    rw [ec] at hd
    cases Option.some.inj hd
    have gq := menu_ok qp (List.mem_of_getElem? ec)
    have lu : us.length < sizeLine := by
      have h := dD.length
      rw [List.length_map] at h
      exact small1000 (by omega)
    refine ⟨by show 2 ≤ sizeLine; decide, fun tp htp => ?_⟩
    have s9 : Same Hn (upd Hn tp (.tup [.str ts[i], v])) := same_new htp
    have e9 : (upd Hn tp (.tup [.str ts[i], v])) tp = some (.tup [.str ts[i], v]) := upd_same
    have ntp : tp ≠ D2 := (ne_of_none eDn htp).symm
    revert s9 e9
    generalize upd Hn tp (.tup [.str ts[i], v]) = Ho
    intro s9 e9
    have bo : But b H18 Ho := (bm.trans bn).trans (But.of_same s9)
    have Bo := Bn.on s9
    have eDo := s9 _ _ eDn
    have put : But D2 Ho (upd Ho D2 (.lst (us ++ [.ref tp]))) := But.set
    refine ⟨us, eDo, lu, ?_, Bo.set_other nD, dpa_butS eDo put tsp (An.mono s9), js ++ [(ts[i], qp.1, qp.2)], us ++ [.ref tp], by rw [List.length_append, ljs]; rfl, ?_, ?_, upd_same, ?_⟩
    · intro a o na h
      rw [upd_ne (ne_of_none h hD2)]; exact bo a o na h
    · rw [List.map_append, ejs, List.take_add_one, List.getElem?_eq_getElem it]; rfl
    · intro j hj
      rcases List.mem_append.mp hj with z | z
      · exact gjs j z
      · rw [List.mem_singleton.mp z]; exact gq
    · rw [List.map_append]
      refine (dpa_butS eDo put tupS_jobs (dDn.mono s9)).append (.cons (.tup (SqT.of (by rw [upd_ne ntp]; exact e9)) (.cons (.str _) (.cons ?_ .nil))) .nil)
      exact (dp_hideS eDo (tupS_part _ _) _ (hv.mono s9)).mono put.hid |>.mono hid_sub
  · rintro Hm ⟨bm, Bm, Am, js, us, ljs, ejs, gjs, eD, dD⟩
    rw [Int.toNat_natCast] at ljs ejs
    refine ⟨by show 2 ≤ sizeLine; decide, fun tp htp => ?_⟩
    have s9 : Same Hm (upd Hm tp (.tup [.int (1 + (n0 : Int)), .ref D2])) := same_new htp
    have b9 := b08.trans (bm.trans (But.of_same s9))
    have B9 := Bm.on s9
    have fr : H tp = none := by
      cases e : H tp with
      | none => rfl
      | some o =>
        by_cases tb : tp = b
        · obtain ⟨_, _, _, eb⟩ := Bm
          rw [tb, eb] at htp; cases htp
        · rw [bm _ _ tb (b08 _ _ tb e)] at htp; cases htp
    have gd : Good 16 js := ⟨by rw [ejs]; exact tnd.sublist (List.take_sublist _ _), fun j hj => ttag _ (List.mem_of_mem_take (by rw [← ejs]; exact List.mem_map_of_mem hj)), fun j hj => (gjs j hj).1⟩
    obtain ⟨x8, y8, z8, eb8⟩ := id B9
    refine q n js tp D2 _ (by omega) (by omega) (by omega) (by omega) gd (fun j hj => (gjs j hj).2) b9 B9 fr (by rw [upd_same]; dsimp only; rw [hn]) ?_
    exact .lst (SqL.of (by rw [hid_ne nD]; exact s9 _ _ eD)) (DpAll.imp (dD.mono s9) fun d hd => dp_hideS eb8 (tupS_jobs d hd))
end
end Ts
namespace Ts
open PySem PySem.Spec PyProof.Rows L2
section
variable {P : Program} {w : World} {K : PySem.W.Frag} {mg : Str → Option Value} {base : Heap}
theorem has_fitJ (D : DefAt K mg "_law_fitting" s__law_fitting) (B : Blt0 mg) (h__law_dig : Has P w K mg base 1 "_law_dig" ["_law_jar_here", "_law_many"] spLadle) (h__law_lot : Has P w K mg base 3 "_law_lot" ["_law_jar_here", "_law_most"] (spLotJ K)) : Has P w K mg base 4 "_law_fitting" ["_law_jar_here", "_law_most"] (spFitJ K) := by
  refine D.has (fun _ _ _ _ _ _ us hl => match us, hl with | [_, _], _ => rfl) fun f fd F => F.ok sc__law_fitting (fun vs H Q E h => ?_) (fun cdv A outer s H vs Q E hr h => ?_)
  · obtain ⟨b, m, rfl, _⟩ := h; rfl
  obtain ⟨b, m, rfl, hB, hm0, hm1, q⟩ := h
  refine ⟨_, (pss_cons (ps_asg (pe_h h__law_lot (hr.mono (by decide)) (pa_cons (pv 0) (pa_cons (pv 1) pa_nil))) (pg_tup rfl (pgs_cons (pg_name (i := 2) sc__law_fitting.nd rfl (.inl rfl)) (pgs_cons (pg_name (i := 3) sc__law_fitting.nd rfl (.inl rfl)) pgs_nil))))
      (pss_cons (ps_set (i := 7) sc__law_fitting.nd rfl (.inl rfl) (pe_callB (cr_sum rfl) (by rfl) B.zsum (by decide +kernel) (pa_cons (pe_lc (own := [("_law_tag", 4), ("_law_e", 5), ("_law_p", 6)]) rfl sc__law_fitting.nd (pi_list (pv 3)) (blkOk_by (N := ["_law_jar_here", "_law_most", "_law_own", "_law_works", "_law_tag", "_law_e", "_law_p", "_law_needed"]) (sc := defScope s__law_fitting) (own := [("_law_tag", 4), ("_law_e", 5), ("_law_p", 6)]) (by decide +kernel)) (fun _ _ _ _ _ => (pg_tupK (K := K) (n := 2) rfl rfl (pgs_cons (pg_name (i := 4) sc__law_fitting.nd rfl (.inl rfl) (.inr rfl)) (pgs_cons (pg_tupK (K := K) (n := 2) rfl rfl (pgs_cons (pg_name (i := 5) sc__law_fitting.nd rfl (.inl rfl) (.inr rfl)) (pgs_cons (pg_name (i := 6) sc__law_fitting.nd rfl (.inl rfl) (.inr rfl)) pgs_nil))) pgs_nil)))) (fun _ _ _ _ _ => pts_nil) (fun _ _ _ _ _ => (pe_op op_fdiv (pe_op op_mul pe_int (pv 5)) (pv 6)))) pa_nil)))
      (pss_one (ps_ret (pe_tup (pa_cons (pe_op op_add (pe_un un_neg (pe_op op_fdiv (pe_un un_neg (pv 7)) pe_int)) (pe_callTy call_int1 (by rfl) B.zint (by decide +kernel) (pa_cons (pe_cmpR op_eq (pe_h h__law_dig (hr.mono (by decide)) (pa_cons (pv 0) (pa_cons pe_int pa_nil))) pe_int (nomark _)) pa_nil))) (pa_cons (pv 3) pa_nil))))))), ?_⟩
  refine ⟨_, rfl, _, rfl, b, m, rfl, hB, hm0, hm1, fun n js p r H1 n1 n6 l0 lm G D12 b1 B1 fp ep dr => ?_⟩
  obtain ⟨r2, xs, e, hS, hA⟩ := dr.list
  cases e
  have hS1 := hid_sub.seq hS
  have hA1 := hA.mono hid_sub
  have lx : xs.length = js.length := by rw [hA.length, List.length_map]
  refine ⟨p, _, rfl, SqT.of ep, rfl, _, _, rfl, _, _, rfl, rfl, ?_⟩
  refine ⟨_, rfl, r, rfl, ⟨_, hS1⟩, fun D2 hD2 => ?_⟩
  refine lc_list (K := K) (a := r) (xs := xs) (fun i Hm => Same H1 Hm ∧ Hm D2 = some (.lst (((js.take i).map fun j => ((12 * j.2.1 / j.2.2 : Nat) : Int)).map V.int))) ⟨same_new hD2, upd_same⟩ (fun _ _ _ z => z.1.seq hS1) ?_ ?_
  · rintro i x Hm hx ⟨sm, em⟩
    obtain ⟨j, c, q2, hj, rfl, hc, hd⟩ := job_at hA1 hx
    obtain ⟨g1, g2, g3, g4⟩ := G.part j (List.mem_of_getElem? hj)
    refine ⟨c, _, rfl, sameT sm hc, rfl, _, _, rfl, _, _, rfl, q2, _, rfl, sameT sm hd, rfl, _, _, rfl, _, _, rfl, rfl, rfl, rfl, yesIf ?_⟩
    refine ⟨_, rfl, _, _, rfl, rfl, .inl ⟨by decide, by decide⟩, _, rfl, _, _, rfl, rfl, ⟨by omega, by omega⟩, _, em, ?_, Same.app hD2 sm, ?_⟩
    · rw [List.length_map, List.length_map, List.length_take]; exact small1000 (by omega)
    · rw [upd_same, map_take_succ _ hj, List.map_append]; rfl
  rintro H2 ⟨s2, e2⟩
  rw [lx, List.take_length] at e2
  have eN : (js.map fun j => ((12 * j.2.1 / j.2.2 : Nat) : Int)).sum = (((js.map fun j => 12 * j.2.1 / j.2.2).sum : Nat) : Int) := by
    have := natV_sum (js.map fun j => 12 * j.2.1 / j.2.2)
    rw [List.map_map] at this
    exact this
  refine ⟨_, _, rfl, SqL.of e2, ?_⟩
  rw [eN]
  obtain ⟨z1, z2⟩ := need_range G D12 l0
  have nf := fun n => need_fitsF G D12 n
  have z3 : js.length ≤ 4 := by omega
  revert z1 z2 nf
  generalize (js.map fun j => 12 * j.2.1 / j.2.2).sum = N
  intro z1 z2 nf
  have b2 : But b H H2 := b1.trans' s2
  have B2 := B1.on s2
  refine ⟨_, rfl, _, rfl, _, _, rfl, rfl, ⟨by decide, by decide⟩, _, rfl, _, rfl, b, 4, rfl, B2, by decide, by decide, fun rr H3 r0 r1 b3 B3 => ?_⟩
  refine ⟨rfl, .inr ⟨_, rfl, _, _, rfl, rfl, _, rfl, by show 2 ≤ sizeLine; decide, fun tp htp => ?_⟩⟩
  have s4 : Same H3 (upd H3 tp (.tup [.int (-(-((N : Nat) : Int) / 12) + (if decide (V.int rr = V.int 0) = true then 1 else 0)), .ref r])) := same_new htp
  have b4 := (b2.trans b3).trans' s4
  obtain ⟨v, hv, hv1, hv2, hv3⟩ : ∃ v : Nat, -(-((N : Nat) : Int) / 12) + (if decide (V.int rr = V.int 0) = true then 1 else 0) = (v : Int) ∧ 1 ≤ v ∧ v ≤ 6 ∧ N ≤ 12 * v := by
    refine ⟨(-(-((N : Nat) : Int) / 12) + (if decide (V.int rr = V.int 0) = true then 1 else 0)).toNat, ?_, ?_, ?_, ?_⟩ <;> split <;> omega
  refine q v js tp r _ hv1 hv2 l0 lm G D12 (Decidable.byContradiction fun z => by have := (nf v).mpr z; omega) b4 (B3.on s4) ?_ (by rw [upd_same, ← hv]) ((dr.mono (hid_same s2)).mono (b3.trans' s4).hid)
  cases e : H tp with
  | none => rfl
  | some o =>
    by_cases tb : tp = b
    · obtain ⟨_, _, _, eb⟩ := B3
      rw [tb, eb] at htp; cases htp
    · rw [(b2.trans b3) _ _ tb e] at htp; cases htp
end
end Ts
namespace Ts
open PySem PySem.Spec PyProof.Rows L2
section
variable {P : Program} {w : World} {K : PySem.W.Frag} {mg : Str → Option Value} {base : Heap}
theorem has_textJ (D : DefAt K mg "_law_text" s__law_text) (B : Blt0 mg) : Has P w K mg base 1 "_law_text" ["_law_lot_here"] (spTextJ K) := by
  refine D.has (fun _ _ _ _ _ _ us hl => match us, hl with | [_], _ => rfl) fun f fd F => F.ok sc__law_text (fun vs H Q E h => ?_) (fun cdv A outer s H vs Q E hr h => ?_)
  · obtain ⟨p, q2, n, js, rfl, _⟩ := h; rfl
  obtain ⟨p, qq, n, js, rfl, hT, hD, G, hn, hl, q⟩ := h
  refine ⟨_, (pss_cons (ps_set (i := 1) sc__law_text.nd rfl (.inl rfl) (pe_lst (pa_cons (pe_op op_add_str pe_str (pe_callTy call_str_int (by rfl) B.zstr (by decide +kernel) (pa_cons (pe_ix ix_tup (pv 0) pe_int (fun _ _ => rfl)) pa_nil))) pa_nil)))
      (pss_one (ps_ret (pe_join pe_str (pe_op op_cat (pv 1) (pe_lc (own := [("_law_tag", 2), ("_law_e", 3), ("_law_p", 4)]) rfl sc__law_text.nd (pi_list (pe_ix ix_tup (pv 0) pe_int (fun _ _ => rfl))) (blkOk_by (N := ["_law_lot_here", "_law_rows", "_law_tag", "_law_e", "_law_p"]) (sc := defScope s__law_text) (own := [("_law_tag", 2), ("_law_e", 3), ("_law_p", 4)]) (by decide +kernel)) (fun _ _ _ _ _ => (pg_tupK (K := K) (n := 2) rfl rfl (pgs_cons (pg_name (i := 2) sc__law_text.nd rfl (.inl rfl) (.inr rfl)) (pgs_cons (pg_tupK (K := K) (n := 2) rfl rfl (pgs_cons (pg_name (i := 3) sc__law_text.nd rfl (.inl rfl) (.inr rfl)) (pgs_cons (pg_name (i := 4) sc__law_text.nd rfl (.inl rfl) (.inr rfl)) pgs_nil))) pgs_nil)))) (fun _ _ _ _ _ => pts_nil) (fun _ _ _ _ _ => (pe_op op_add_str (pe_op op_add_str (pe_op op_add_str (pe_op op_add_str (pe_op op_add_str pe_str (pv 2)) pe_str) (pe_callTy call_str_int (by rfl) B.zstr (by decide +kernel) (pa_cons (pv 3) pa_nil))) pe_str) (pe_callTy call_str_int (by rfl) B.zstr (by decide +kernel) (pa_cons (pv 4) pa_nil)))))))))), ?_⟩
  obtain ⟨p', xs, e, hS, hA⟩ := hD.list
  cases e
  have ln := numS_len hn
  have l6 : (Str.ofString "hands ").length = 6 := by decide
  have hxl : xs.length = js.length := by rw [hA.length, List.length_map]
  refine ⟨_, rfl, p, _, 0, .int (n : Int), rfl, rfl, hT, atI_nat (j := 0) rfl, _, rfl, num_okB hn, _, _, rfl, rfl, ?_, by show 1 ≤ sizeLine; decide, fun ph hph => ?_⟩
  · rw [l6]
    show 6 + (numS n).length ≤ sizeLine
    exact Nat.le_of_lt (small1000 (by omega))
  have s0 : Same H (upd H ph (.lst [.str (Str.ofString "hands " ++ Str.ofString (toString ((n : Nat) : Int)))])) := same_new hph
  have e0 : (upd H ph (.lst [V.str (Str.ofString "hands " ++ Str.ofString (toString ((n : Nat) : Int)))])) ph = some (.lst [.str (handsS n)]) := upd_same
  revert s0 e0
  generalize upd H ph (.lst [.str (Str.ofString "hands " ++ Str.ofString (toString ((n : Nat) : Int)))]) = H1
  intro s0 e0
  refine ⟨⟨_, rfl⟩, _, rfl, _, rfl, p, _, 1, .ref qq, rfl, rfl, sameT s0 hT, atI_nat (j := 1) rfl, qq, rfl, ⟨_, s0.seq hS⟩, fun pr hpr => ?_⟩
  have hA1 := hA.mono s0
  refine lc_list (K := K) (a := qq) (xs := xs) (fun i H2 => Same H1 H2 ∧ H2 pr = some (.lst (((js.take i).map rowS).map V.str))) ⟨same_new hpr, upd_same⟩ (fun _ _ _ z => (s0.trans z.1).seq hS) ?_ ?_
  · rintro i x H2 hx ⟨sm, e2⟩
    obtain ⟨j, a, q2, hj, rfl, ha, hq⟩ := job_at hA1 hx
    have hjm : j ∈ js := List.mem_of_getElem? hj
    have hp := G.part j hjm
    have ht := G.tag j hjm
    obtain ⟨p1, p2, p3, _⟩ := id hp
    have lr := rowS_len ht hp
    have e6 : (rowS j).length = (Str.ofString "work " ++ j.1 ++ Str.ofString " " ++ numS j.2.1 ++ Str.ofString "/" ++ numS j.2.2).length := rfl
    rw [e6, Str.length_append, Str.length_append, Str.length_append, Str.length_append, Str.length_append] at lr
    have big : ∀ {k : Nat}, k ≤ 23 → k ≤ sizeLine := fun h => Nat.le_of_lt (small1000 (by omega))
    refine ⟨a, _, rfl, sameT sm ha, rfl, _, _, rfl, _, _, rfl, q2, _, rfl, sameT sm hq, rfl, _, _, rfl, _, _, rfl, rfl, rfl, rfl, ?_⟩
    refine yesIf ⟨_, rfl, _, _, rfl, rfl, big (by omega), _, _, rfl, rfl, big (by rw [Str.length_append]; omega), ?_⟩
    refine ⟨_, rfl, _, rfl, num_okB (by omega), _, _, rfl, rfl, big (by rw [Str.length_append, Str.length_append]; show _ + (numS j.2.1).length ≤ 23; omega), ?_⟩
    refine ⟨_, _, rfl, rfl, big (by rw [Str.length_append, Str.length_append, Str.length_append]; show _ + _ + _ + (numS j.2.1).length + _ ≤ 23; omega), ?_⟩
    refine ⟨_, rfl, _, rfl, num_okB (by omega), _, _, rfl, rfl, big (by rw [Str.length_append, Str.length_append, Str.length_append, Str.length_append]; show _ + _ + _ + (numS j.2.1).length + _ + (numS j.2.2).length ≤ 23; omega), ?_⟩
    refine ⟨_, e2, ?_, Same.app hpr sm, ?_⟩
    · rw [List.length_map, List.length_map, List.length_take]; exact small1000 (by omega)
    · rw [upd_same, map_take_succ rowS hj, List.map_append]; rfl
  rintro H2 ⟨sm, e2⟩
  rw [hxl, List.take_length] at e2
  refine ⟨ph, pr, _, _, rfl, rfl, sm _ _ e0, e2, ?_, fun pj hpj => ?_⟩
  · rw [List.length_map, List.length_map]; exact Nat.le_trans (show 1 + js.length ≤ 1000 by omega) (by decide)
  refine ⟨_, pj, rowsOf n js, rfl, rfl, .inl (SqL.of upd_same), ?_, q _ (s0.trans (sm.trans (same_new hpj)))⟩
  have h1 : ((rowsOf n js).map (·.length)).sum ≤ 10 + 23 * js.length := by
    show (handsS n).length + ((js.map rowS).map (·.length)).sum ≤ _
    have a : (handsS n).length ≤ 10 := by unfold handsS; rw [Str.length_append, l6]; omega
    have b : ∀ l : List Job, (∀ j ∈ l, (rowS j).length ≤ 23) → ((l.map rowS).map (·.length)).sum ≤ 23 * l.length := by
      intro l
      induction l with
      | nil => intro _; exact Nat.le_refl _
      | cons j l ih =>
        intro h
        have h1 := h j List.mem_cons_self
        have h2 := ih fun y hy => h y (List.mem_cons_of_mem _ hy)
        show (rowS j).length + ((l.map rowS).map (·.length)).sum ≤ 23 * (l.length + 1)
        omega
    have c := b js fun j hj => rowS_len (G.tag j hj) (G.part j hj)
    omega
  have h2 : (rowsOf n js).length = js.length + 1 := by unfold rowsOf; rw [List.length_cons, List.length_map]
  have h3 : (Str.ofString "\n").length = 1 := by decide
  rw [h2, h3]
  omega
end
end Ts
namespace Ts
open PySem PySem.Spec PyProof.Rows L2 L2H LamX
section
variable {P : Program} {w : World} {K : PySem.W.Frag} {mg : Str → Option Value} {base : Heap}
theorem has_sort {c : Cls9} {b : Bas3} (D : DefAt K mg "_law_sort" s__law_sort) (B : Blt0 mg) (N : ErrN9 mg c b) : HasP P w K mg base 1 "_law_sort" ["_law_e"] (spSort K c) := by
  refine D.hasP (fun _ _ _ _ _ _ us hl => match us, hl with | [_], _ => rfl) fun f fd F => fun_p F sc__law_sort (fun p vs H Q E h => ?_) (fun cdv A outer s H vs Q p hr h => ?_)
  · obtain ⟨C, i, t, v, rfl, _⟩ := h; rfl
  obtain ⟨C, i, t, v, rfl, hK, hE, hI, hf, ht, q⟩ := h
  have hp : p ∈ (cxH CX0 P w K mg base ["_law_e", "_law_found"] "_law_sort" (defScope s__law_sort) f cdv A outer s H E0 p).pn := List.mem_singleton.mpr rfl
  refine ⟨_, (pss_cons (ps_set (i := 1) sc__law_sort.nd rfl (.inl rfl) (pe_lst pa_nil))
      (C8.pss_cut (ps_if (pt_val (pe_callB (call_isP hp) (by rfl) B.zisinstance (by decide +kernel) (pa_cons (pv 0) (pa_cons (pe_gref N.NotALot) pa_nil)))) (pss_one (ps_expr (pe_bm PySem.F.plainAttrs_list PySem.F.slot_list_append PySem.F.type_list_append mt_append (pv 1) (pa_cons (pe_tup (pa_cons pe_str (pa_cons (pe_err hp (pv 0)) pa_nil))) pa_nil)))) pss_nil)
      (C8.pss_cut (ps_if (pt_val (pe_callB (call_isP hp) (by rfl) B.zisinstance (by decide +kernel) (pa_cons (pv 0) (pa_cons (pe_gref N.UnknownName) pa_nil)))) (pss_one (ps_expr (pe_bm PySem.F.plainAttrs_list PySem.F.slot_list_append PySem.F.type_list_append mt_append (pv 1) (pa_cons (pe_tup (pa_cons pe_str (pa_cons (pe_err hp (pv 0)) pa_nil))) pa_nil)))) pss_nil)
      (C8.pss_cut (ps_if (pt_val (pe_callB (call_isP hp) (by rfl) B.zisinstance (by decide +kernel) (pa_cons (pv 0) (pa_cons (pe_gref N.InvalidNumber) pa_nil)))) (pss_one (ps_expr (pe_bm PySem.F.plainAttrs_list PySem.F.slot_list_append PySem.F.type_list_append mt_append (pv 1) (pa_cons (pe_tup (pa_cons pe_str (pa_cons (pe_err hp (pv 0)) pa_nil))) pa_nil)))) pss_nil)
      (C8.pss_cut (ps_if (pt_val (pe_callB (call_isP hp) (by rfl) B.zisinstance (by decide +kernel) (pa_cons (pv 0) (pa_cons (pe_gref N.InvalidRule) pa_nil)))) (pss_one (ps_expr (pe_bm PySem.F.plainAttrs_list PySem.F.slot_list_append PySem.F.type_list_append mt_append (pv 1) (pa_cons (pe_tup (pa_cons pe_str (pa_cons (pe_err hp (pv 0)) pa_nil))) pa_nil)))) pss_nil)
      (C8.pss_cut (ps_if (pt_val (pe_callB (call_isP hp) (by rfl) B.zisinstance (by decide +kernel) (pa_cons (pv 0) (pa_cons (pe_gref N.InvalidStanding) pa_nil)))) (pss_one (ps_expr (pe_bm PySem.F.plainAttrs_list PySem.F.slot_list_append PySem.F.type_list_append mt_append (pv 1) (pa_cons (pe_tup (pa_cons pe_str (pa_cons (pe_err hp (pv 0)) pa_nil))) pa_nil)))) pss_nil)
      (C8.pss_cut (ps_if (pt_val (pe_callB (call_isP hp) (by rfl) B.zisinstance (by decide +kernel) (pa_cons (pv 0) (pa_cons (pe_gref N.InvalidTable) pa_nil)))) (pss_one (ps_expr (pe_bm PySem.F.plainAttrs_list PySem.F.slot_list_append PySem.F.type_list_append mt_append (pv 1) (pa_cons (pe_tup (pa_cons pe_str (pa_cons (pe_err hp (pv 0)) pa_nil))) pa_nil)))) pss_nil)
      (C8.pss_cut (ps_if (pt_val (pe_callB (call_isP hp) (by rfl) B.zisinstance (by decide +kernel) (pa_cons (pv 0) (pa_cons (pe_gref N.InvalidLates) pa_nil)))) (pss_one (ps_expr (pe_bm PySem.F.plainAttrs_list PySem.F.slot_list_append PySem.F.type_list_append mt_append (pv 1) (pa_cons (pe_tup (pa_cons pe_str (pa_cons (pe_err hp (pv 0)) pa_nil))) pa_nil)))) pss_nil)
      (C8.pss_cut (ps_if (pt_val (pe_callB (call_isP hp) (by rfl) B.zisinstance (by decide +kernel) (pa_cons (pv 0) (pa_cons (pe_gref N.InvalidCounts) pa_nil)))) (pss_one (ps_expr (pe_bm PySem.F.plainAttrs_list PySem.F.slot_list_append PySem.F.type_list_append mt_append (pv 1) (pa_cons (pe_tup (pa_cons pe_str (pa_cons (pe_err hp (pv 0)) pa_nil))) pa_nil)))) pss_nil)
      (C8.pss_cut (ps_if (pt_val (pe_callB (call_isP hp) (by rfl) B.zisinstance (by decide +kernel) (pa_cons (pv 0) (pa_cons (pe_gref N.TooMany) pa_nil)))) (pss_one (ps_expr (pe_bm PySem.F.plainAttrs_list PySem.F.slot_list_append PySem.F.type_list_append mt_append (pv 1) (pa_cons (pe_tup (pa_cons pe_str (pa_cons (pe_err hp (pv 0)) pa_nil))) pa_nil)))) pss_nil)
      (pss_one (ps_ret (pe_ifExp (pt_cmpR op_eq (pe_callB call_len_seq (by rfl) B.zlen (by decide +kernel) (pa_cons (pv 1) pa_nil)) pe_int (nomark _)) (pe_ix ix_list (pv 1) pe_int (fun _ _ => rfl)) pe_non))))))))))))), ?_⟩
  refine ⟨by show 0 ≤ sizeLine; decide, fun L hL => ?_⟩
  have m : SortMid p.1 L H i t v 0 [some (.ref p.1), some (.ref L)] (upd H L (.lst [])) := ⟨same_new hL, rfl, .inl ⟨Nat.zero_le _, upd_same⟩⟩
  have hLH : H L = none := hL
  obtain ⟨sm, _, hc⟩ := m
  refine ⟨SortMid p.1 L H i t v 1, ?_, ?_⟩
  · refine ⟨_, rfl, _, _, _, C, _, rfl, (fun _ h => h), hK, hE.mono sm, hI.k 0 _ rfl, _, rfl, ?_⟩
    by_cases e : 0 = i
    · subst e
      rw [decide_eq_true rfl]
      rcases hc with ⟨_, eL⟩ | ⟨z, _⟩
      case inr => omega
      cases ht
      refine iteT ⟨_, rfl, .inl ⟨rfl, _, SqL.of eL⟩, ?_⟩
      refine ⟨_, rfl, rfl, C, _, v, hK, hf, hE.mono sm, rfl, by show 2 ≤ sizeLine; decide, fun tp htp => ?_⟩
      have nt : tp ≠ L := fun z => by rw [z, eL] at htp; cases htp
      refine ⟨L, [], .ref tp, rfl, rfl, (same_new htp) _ _ eL, by decide, ?_⟩
      exact ⟨Same.app hLH (sm.trans (same_new htp)), rfl, .inr ⟨by decide, tp, upd_same, by rw [upd_ne nt]; exact upd_same⟩⟩
    · rw [decide_eq_false e]
      refine iteF ⟨sm, rfl, ?_⟩
      rcases hc with ⟨z, eL⟩ | ⟨z, eL⟩
      · exact .inl ⟨by omega, eL⟩
      · exact .inr ⟨by omega, eL⟩
  clear hc sm
  clear hL
  intro σ1 H1 m
  obtain ⟨sm, rfl, hc⟩ := m
  refine ⟨SortMid p.1 L H i t v 2, ?_, ?_⟩
  · refine ⟨_, rfl, _, _, _, C, _, rfl, (fun _ h => h), hK, hE.mono sm, hI.k 1 _ rfl, _, rfl, ?_⟩
    by_cases e : 1 = i
    · subst e
      rw [decide_eq_true rfl]
      rcases hc with ⟨_, eL⟩ | ⟨z, _⟩
      case inr => omega
      cases ht
      refine iteT ⟨_, rfl, .inl ⟨rfl, _, SqL.of eL⟩, ?_⟩
      refine ⟨_, rfl, rfl, C, _, v, hK, hf, hE.mono sm, rfl, by show 2 ≤ sizeLine; decide, fun tp htp => ?_⟩
      have nt : tp ≠ L := fun z => by rw [z, eL] at htp; cases htp
      refine ⟨L, [], .ref tp, rfl, rfl, (same_new htp) _ _ eL, by decide, ?_⟩
      exact ⟨Same.app hLH (sm.trans (same_new htp)), rfl, .inr ⟨by decide, tp, upd_same, by rw [upd_ne nt]; exact upd_same⟩⟩
    · rw [decide_eq_false e]
      refine iteF ⟨sm, rfl, ?_⟩
      rcases hc with ⟨z, eL⟩ | ⟨z, eL⟩
      · exact .inl ⟨by omega, eL⟩
      · exact .inr ⟨by omega, eL⟩
  clear hc sm
  intro σ2 H2 m
  obtain ⟨sm, rfl, hc⟩ := m
  refine ⟨SortMid p.1 L H i t v 3, ?_, ?_⟩
  · refine ⟨_, rfl, _, _, _, C, _, rfl, (fun _ h => h), hK, hE.mono sm, hI.k 2 _ rfl, _, rfl, ?_⟩
    by_cases e : 2 = i
    · subst e
      rw [decide_eq_true rfl]
      rcases hc with ⟨_, eL⟩ | ⟨z, _⟩
      case inr => omega
      cases ht
      refine iteT ⟨_, rfl, .inl ⟨rfl, _, SqL.of eL⟩, ?_⟩
      refine ⟨_, rfl, rfl, C, _, v, hK, hf, hE.mono sm, rfl, by show 2 ≤ sizeLine; decide, fun tp htp => ?_⟩
      have nt : tp ≠ L := fun z => by rw [z, eL] at htp; cases htp
      refine ⟨L, [], .ref tp, rfl, rfl, (same_new htp) _ _ eL, by decide, ?_⟩
      exact ⟨Same.app hLH (sm.trans (same_new htp)), rfl, .inr ⟨by decide, tp, upd_same, by rw [upd_ne nt]; exact upd_same⟩⟩
    · rw [decide_eq_false e]
      refine iteF ⟨sm, rfl, ?_⟩
      rcases hc with ⟨z, eL⟩ | ⟨z, eL⟩
      · exact .inl ⟨by omega, eL⟩
      · exact .inr ⟨by omega, eL⟩
  clear hc sm
  intro σ3 H3 m
  obtain ⟨sm, rfl, hc⟩ := m
  refine ⟨SortMid p.1 L H i t v 4, ?_, ?_⟩
  · refine ⟨_, rfl, _, _, _, C, _, rfl, (fun _ h => h), hK, hE.mono sm, hI.k 3 _ rfl, _, rfl, ?_⟩
    by_cases e : 3 = i
    · subst e
      rw [decide_eq_true rfl]
      rcases hc with ⟨_, eL⟩ | ⟨z, _⟩
      case inr => omega
      cases ht
      refine iteT ⟨_, rfl, .inl ⟨rfl, _, SqL.of eL⟩, ?_⟩
      refine ⟨_, rfl, rfl, C, _, v, hK, hf, hE.mono sm, rfl, by show 2 ≤ sizeLine; decide, fun tp htp => ?_⟩
      have nt : tp ≠ L := fun z => by rw [z, eL] at htp; cases htp
      refine ⟨L, [], .ref tp, rfl, rfl, (same_new htp) _ _ eL, by decide, ?_⟩
      exact ⟨Same.app hLH (sm.trans (same_new htp)), rfl, .inr ⟨by decide, tp, upd_same, by rw [upd_ne nt]; exact upd_same⟩⟩
    · rw [decide_eq_false e]
      refine iteF ⟨sm, rfl, ?_⟩
      rcases hc with ⟨z, eL⟩ | ⟨z, eL⟩
      · exact .inl ⟨by omega, eL⟩
      · exact .inr ⟨by omega, eL⟩
  clear hc sm
  intro σ4 H4 m
  obtain ⟨sm, rfl, hc⟩ := m
  refine ⟨SortMid p.1 L H i t v 5, ?_, ?_⟩
  · refine ⟨_, rfl, _, _, _, C, _, rfl, (fun _ h => h), hK, hE.mono sm, hI.k 4 _ rfl, _, rfl, ?_⟩
    by_cases e : 4 = i
    · subst e
      rw [decide_eq_true rfl]
      rcases hc with ⟨_, eL⟩ | ⟨z, _⟩
      case inr => omega
      cases ht
      refine iteT ⟨_, rfl, .inl ⟨rfl, _, SqL.of eL⟩, ?_⟩
      refine ⟨_, rfl, rfl, C, _, v, hK, hf, hE.mono sm, rfl, by show 2 ≤ sizeLine; decide, fun tp htp => ?_⟩
      have nt : tp ≠ L := fun z => by rw [z, eL] at htp; cases htp
      refine ⟨L, [], .ref tp, rfl, rfl, (same_new htp) _ _ eL, by decide, ?_⟩
      exact ⟨Same.app hLH (sm.trans (same_new htp)), rfl, .inr ⟨by decide, tp, upd_same, by rw [upd_ne nt]; exact upd_same⟩⟩
    · rw [decide_eq_false e]
      refine iteF ⟨sm, rfl, ?_⟩
      rcases hc with ⟨z, eL⟩ | ⟨z, eL⟩
      · exact .inl ⟨by omega, eL⟩
      · exact .inr ⟨by omega, eL⟩
  clear hc sm
  intro σ5 H5 m
  obtain ⟨sm, rfl, hc⟩ := m
  refine ⟨SortMid p.1 L H i t v 6, ?_, ?_⟩
  · refine ⟨_, rfl, _, _, _, C, _, rfl, (fun _ h => h), hK, hE.mono sm, hI.k 5 _ rfl, _, rfl, ?_⟩
    by_cases e : 5 = i
    · subst e
      rw [decide_eq_true rfl]
      rcases hc with ⟨_, eL⟩ | ⟨z, _⟩
      case inr => omega
      cases ht
      refine iteT ⟨_, rfl, .inl ⟨rfl, _, SqL.of eL⟩, ?_⟩
      refine ⟨_, rfl, rfl, C, _, v, hK, hf, hE.mono sm, rfl, by show 2 ≤ sizeLine; decide, fun tp htp => ?_⟩
      have nt : tp ≠ L := fun z => by rw [z, eL] at htp; cases htp
      refine ⟨L, [], .ref tp, rfl, rfl, (same_new htp) _ _ eL, by decide, ?_⟩
      exact ⟨Same.app hLH (sm.trans (same_new htp)), rfl, .inr ⟨by decide, tp, upd_same, by rw [upd_ne nt]; exact upd_same⟩⟩
    · rw [decide_eq_false e]
      refine iteF ⟨sm, rfl, ?_⟩
      rcases hc with ⟨z, eL⟩ | ⟨z, eL⟩
      · exact .inl ⟨by omega, eL⟩
      · exact .inr ⟨by omega, eL⟩
  clear hc sm
  intro σ6 H6 m
  obtain ⟨sm, rfl, hc⟩ := m
  refine ⟨SortMid p.1 L H i t v 7, ?_, ?_⟩
  · refine ⟨_, rfl, _, _, _, C, _, rfl, (fun _ h => h), hK, hE.mono sm, hI.k 6 _ rfl, _, rfl, ?_⟩
    by_cases e : 6 = i
    · subst e
      rw [decide_eq_true rfl]
      rcases hc with ⟨_, eL⟩ | ⟨z, _⟩
      case inr => omega
      cases ht
      refine iteT ⟨_, rfl, .inl ⟨rfl, _, SqL.of eL⟩, ?_⟩
      refine ⟨_, rfl, rfl, C, _, v, hK, hf, hE.mono sm, rfl, by show 2 ≤ sizeLine; decide, fun tp htp => ?_⟩
      have nt : tp ≠ L := fun z => by rw [z, eL] at htp; cases htp
      refine ⟨L, [], .ref tp, rfl, rfl, (same_new htp) _ _ eL, by decide, ?_⟩
      exact ⟨Same.app hLH (sm.trans (same_new htp)), rfl, .inr ⟨by decide, tp, upd_same, by rw [upd_ne nt]; exact upd_same⟩⟩
    · rw [decide_eq_false e]
      refine iteF ⟨sm, rfl, ?_⟩
      rcases hc with ⟨z, eL⟩ | ⟨z, eL⟩
      · exact .inl ⟨by omega, eL⟩
      · exact .inr ⟨by omega, eL⟩
  clear hc sm
  intro σ7 H7 m
  obtain ⟨sm, rfl, hc⟩ := m
  refine ⟨SortMid p.1 L H i t v 8, ?_, ?_⟩
  · refine ⟨_, rfl, _, _, _, C, _, rfl, (fun _ h => h), hK, hE.mono sm, hI.k 7 _ rfl, _, rfl, ?_⟩
    by_cases e : 7 = i
    · subst e
      rw [decide_eq_true rfl]
      rcases hc with ⟨_, eL⟩ | ⟨z, _⟩
      case inr => omega
      cases ht
      refine iteT ⟨_, rfl, .inl ⟨rfl, _, SqL.of eL⟩, ?_⟩
      refine ⟨_, rfl, rfl, C, _, v, hK, hf, hE.mono sm, rfl, by show 2 ≤ sizeLine; decide, fun tp htp => ?_⟩
      have nt : tp ≠ L := fun z => by rw [z, eL] at htp; cases htp
      refine ⟨L, [], .ref tp, rfl, rfl, (same_new htp) _ _ eL, by decide, ?_⟩
      exact ⟨Same.app hLH (sm.trans (same_new htp)), rfl, .inr ⟨by decide, tp, upd_same, by rw [upd_ne nt]; exact upd_same⟩⟩
    · rw [decide_eq_false e]
      refine iteF ⟨sm, rfl, ?_⟩
      rcases hc with ⟨z, eL⟩ | ⟨z, eL⟩
      · exact .inl ⟨by omega, eL⟩
      · exact .inr ⟨by omega, eL⟩
  clear hc sm
  intro σ8 H8 m
  obtain ⟨sm, rfl, hc⟩ := m
  refine ⟨SortMid p.1 L H i t v 9, ?_, ?_⟩
  · refine ⟨_, rfl, _, _, _, C, _, rfl, (fun _ h => h), hK, hE.mono sm, hI.k 8 _ rfl, _, rfl, ?_⟩
    by_cases e : 8 = i
    · subst e
      rw [decide_eq_true rfl]
      rcases hc with ⟨_, eL⟩ | ⟨z, _⟩
      case inr => omega
      cases ht
      refine iteT ⟨_, rfl, .inl ⟨rfl, _, SqL.of eL⟩, ?_⟩
      refine ⟨_, rfl, rfl, C, _, v, hK, hf, hE.mono sm, rfl, by show 2 ≤ sizeLine; decide, fun tp htp => ?_⟩
      have nt : tp ≠ L := fun z => by rw [z, eL] at htp; cases htp
      refine ⟨L, [], .ref tp, rfl, rfl, (same_new htp) _ _ eL, by decide, ?_⟩
      exact ⟨Same.app hLH (sm.trans (same_new htp)), rfl, .inr ⟨by decide, tp, upd_same, by rw [upd_ne nt]; exact upd_same⟩⟩
    · rw [decide_eq_false e]
      refine iteF ⟨sm, rfl, ?_⟩
      rcases hc with ⟨z, eL⟩ | ⟨z, eL⟩
      · exact .inl ⟨by omega, eL⟩
      · exact .inr ⟨by omega, eL⟩
  clear hc sm
  rintro σ9 H9 ⟨sm, rfl, hc⟩
  have i9 := hI.i9
  rcases hc with ⟨z, _⟩ | ⟨_, tp, eL, et⟩
  · omega
  refine ⟨_, rfl, L, _, rfl, .inl (SqL.of eL), rfl, _, rfl, ?_⟩
  refine iteT ⟨_, rfl, L, _, 0, .ref tp, rfl, rfl, SqL.of eL, atI_nat (j := 0) rfl, ?_⟩
  exact q tp H9 sm et
end
end Ts
namespace Ts
open PySem PySem.Spec PyProof.Rows L2 L2H LamX
section
theorem caught_gives {X : Cx} {q : Str} {g : Addr} {cdg : Value} {c : Cls9} {b : Bas3} (N : ErrN9 X.mg c b) (B : Blt0 X.mg) (h__law_sort : HasP X.prog X.w X.K X.mg X.base 1 "_law_sort" ["_law_e"] (spSort X.K c)) (hg : X.A.guards = some []) (hr : Room 6 X.A) :
    GivesTo X ["_law_act", "_law_given", "_law_e"] "_law_caught" (defScope s__law_caught) g cdg (defBody s__law_caught) "_law_act" q (TTcaught X.K c b) := by
  obtain ⟨P, w, K, mg, base, A, N0, s0, H0, env, outer, stack, ex, fn, calm, pn0, xe0⟩ := X
  dsimp only at N B h__law_sort hg hr
  intro f c' s H Q tl act hc h
  dsimp only at act
  have S := sc__law_caught
  have hr1 : RoomH 4 (A.deeper (envOfC "_law_caught" (defScope s__law_caught) s.heap.objs.size g cdg)) := RoomH.deeper (roomH_of (hr.mono (by decide))) _
  have hg1 : (A.deeper (envOfC "_law_caught" (defScope s__law_caught) s.heap.objs.size g cdg)).guards = some [] := hg
  refine ⟨_, pss_cons (ps_try_tup3 (X := (cxOf C8.CX0 P w K mg base ["_law_act", "_law_given", "_law_e"] "_law_caught" (defScope s__law_caught) g cdg A stack s H C8.E0).nox) (i := 2) (tb := fun W D σ H1 => ∃ Ech : XK, (∀ cls d σ' H', Ech cls d H' → W cls d σ' H') ∧ ∃ Q' : VK, (∀ v H', Q' v H' → D.nx (σ.set 1 (some v)) H') ∧ σ[0]? = some (some (.ref f)) ∧ H1 c' = some (CodeO c' q) ∧ tl Ech H1 Q')
    (ts := fun a cls d D σ H1 => (σ.length = 3 → σ[2]? = some (some (.ref a))) ∧ ∃ (C dd : Addr) (i : Nat) (t : Str) (v : V), cls = .ref C ∧ ExcK K C ∧ IsSort K c C i ∧ sortWords[i]? = some t ∧ d = some dd ∧ H1 dd = some (.xd [(sortField i, v)]) ∧ PySem.W.findIn K (.ref C) (sortField i) = some none ∧ ∀ (l : Addr) (H2 : Hp), Same H1 H2 → H2 l = some (.tup [.str t, v]) → D.rt (.ref l) H2)
    rfl rfl S.nd rfl rfl ⟨rfl, by decide, .inl N.WrongValue⟩ ⟨rfl, by decide, .inl N.WrongName⟩ ⟨rfl, by decide, .inl N.NoAnswer⟩ (fun W pn xe tk po => ⟨fun pins s' σ H' D I ⟨Ech, hW, Q', hQ, h0, h1, h2⟩ => (pss_one (ps_set (i := 1) (te := fun σ H Q => ∃ Q' : VK, (∀ v H', Q' v H' → Q v H') ∧ σ[0]? = some (some (.ref f)) ∧ H c' = some (CodeO c' q) ∧ tl Ech H Q') S.nd rfl (.inl rfl) ⟨fun pins s σ H Q I ⟨Q', hQ, h0, h1, h2⟩ => thn ((act W pn xe Ech _ _ tk hW).run pins s σ H Q' I ⟨h0, h1, h2⟩) fun _ _ ⟨v, H2, I2, r2, q2⟩ => ⟨v, H2, I2, r2, hQ _ _ q2⟩⟩)).run pins s' σ H' D I ⟨Q', hQ, h0, h1, h2⟩⟩) (fun a oe cls d pn hz hf => ⟨fun pins s' σ H' D I hh => ?_⟩)) (pss_one (ps_ret (pe_tup (pa_cons pe_str (pa_cons (pv 1) pa_nil))))), ?_⟩
  · obtain ⟨hl, C, dd, i, t, v, rfl, hK, hI, ht, rfl, hx, hn, q⟩ := hh
    have len := I.len
    have hr2 : RoomH 4 (((cxOf C8.CX0 P w K mg base ["_law_act", "_law_given", "_law_e"] "_law_caught" (defScope s__law_caught) g cdg A stack s H C8.E0).nox.suite a ((a, oe) :: pn))).A := ⟨hr1.dp, hr1.un⟩
    have hp : ((a, oe) : Addr × Obj) ∈ (((cxOf C8.CX0 P w K mg base ["_law_act", "_law_given", "_law_e"] "_law_caught" (defScope s__law_caught) g cdg A stack s H C8.E0).nox.suite a ((a, oe) :: pn))).pn := List.mem_cons_self
    have hE : ErrAt H' (a, oe) C [(sortField i, v)] := ⟨hf, .inl ⟨dd, hz, hx⟩⟩
    refine PSs.run (X := ((cxOf C8.CX0 P w K mg base ["_law_act", "_law_given", "_law_e"] "_law_caught" (defScope s__law_caught) g cdg A stack s H C8.E0).nox.suite a ((a, oe) :: pn))) (t := tRet (tCall (spSort K c (a, oe)) [] E0 (tCons (tVar 2) tNil))) ?hh pins s' σ H' D I ?gg
    case hh => exact (pss_one (ps_ret (pe_p h__law_sort hp (hr2.mono (by decide)) (pa_cons (pv 2) pa_nil))))
    have len3 : σ.length = 3 := len
    obtain ⟨w0, w1, w2, rfl⟩ : ∃ w0 w1 w2, σ = [w0, w1, w2] := by
      match σ, len3 with
      | [w0, w1, w2], _ => exact ⟨w0, w1, w2, rfl⟩
    have e2 : w2 = some (.ref a) := Option.some.inj (hl rfl)
    subst e2
    exact ⟨_, rfl, C, i, t, v, rfl, hK, hE, hI, hn, ht, fun l H2 s2 e => q l H2 s2 e⟩
  · obtain ⟨E', Q', ht, hE', hQ'⟩ := h
    refine ⟨E', fun cls d σ' H' hx => ?_, Q', fun v H' hq => ?_, rfl, hc, ht⟩
    · obtain ⟨C, dd, i, t, v, rfl, hK, hI, ht, hm, rfl, hxx, hn, q⟩ := hE' _ _ _ hx
      refine ⟨hm, fun a _ => ⟨fun hl => ?_, C, dd, i, t, v, rfl, hK, hI, ht, rfl, hxx, hn, q⟩⟩
      rw [List.length_set] at hl
      rw [List.getElem?_set_self (by omega)]
    · have q := hQ' _ _ hq
      exact ⟨_, rfl, by show 2 ≤ sizeLine; decide, fun l hl => q l _ (same_new hl) upd_same⟩
/-- .. where several tables of code are tracked -/
theorem pe_caught3 {X : Cx} {c : Cls9} {b : Bas3} {T : List (Addr × Str)} {cd PT : Addr} {k : Nat} {t : XK → TE} {params : Arguments} {body : Expr} {scope : Scope} {p lpos pos : Pos}
    (D : DefAt X.K X.mg "_law_caught" s__law_caught) (N : ErrN9 X.mg c b) (B : Blt0 X.mg) (hcl : HasP X.prog X.w X.K X.mg X.base 1 "_law_sort" ["_law_e"] (spSort X.K c)) (hg : X.A.guards = some []) (hr : Room (k + 2) X.A) (h6 : 6 ≤ k + 2)
    (TB : TabB X.base X.mg cd PT) (hcode : X.env.code = .ref cd) (hmT : (PT, X.env.qual ++ "<lambda>") ∈ T) (hu : ∀ p ∈ T, p.1 = PT → p.2 = X.env.qual ++ "<lambda>") (L : LamS X.env.scope scope)
    (hbody : ∀ (A : Around) (outer : List Env) (s : Shared) (H : Hp) (E : XK) (f c' : Addr), Room k (A.deeper (lamEnv X scope s.heap.objs.size f c')) → PE (lamCx X A outer s H E scope f c') body (t E))
    (hdef : defaultsOf params X.env = ([], []) := by rfl) (hbind : ∀ (q : Str) (cl : List (Str × Addr)) (pm cv ctv : Value), bindArgs (PySem.W.kla_fn "<lambda>" q params body scope cl pm cv ctv) ⟨[], []⟩ = pure [] := by intros; rfl) (hgl : Gl X "_law_caught" := by rfl) :
    PE X (.Call (.Name "_law_caught" p) [.Lambda params body scope lpos] [] pos) (tLam T (TTcaught X.K c b) t) := by
  obtain ⟨f, fd, F, hm⟩ := D.ex
  have Bd := F.binds (ps := ["_law_act"]) (fun _ _ _ _ _ _ us hl => match us, hl with | [_], _ => rfl)
  have kp := F.kp
  obtain ⟨oc, od, kV, doc, pm, an, cdv, ct, osl, rfl, lk, hcd⟩ := F.ex
  exact pe_lamcall hgl hm kp lk hcd Bd sc__law_caught rfl (.inl (by decide +kernel)) (caught_gives N B hcl hg (hr.mono h6)) TB hcode hmT hu hr L hdef hbind hbody
end
end Ts
namespace Ts
open PySem PySem.Spec PyProof.Rows L2 L2H LamX
section
variable {P : Program} {w : World} {K : PySem.W.Frag} {mg : Str → Option Value} {base : Heap}
theorem has_oddJ (D : DefAt K mg "_law_odd" s__law_odd) (h__law_take : Has P w K mg base 2 "_law_take" ["_law_jar_here", "_law_some"] (spTakeJ K)) : Has P w K mg base 3 "_law_odd" ["_law_jar_here"] (spOddJ K) := by
  refine D.has (fun _ _ _ _ _ _ us hl => match us, hl with | [_], _ => rfl) fun f fd F => F.ok sc__law_odd (fun vs H Q E h => ?_) (fun cdv A outer s H vs Q E hr h => ?_)
  · obtain ⟨b, rfl, _⟩ := h; rfl
  obtain ⟨b, rfl, hB, q⟩ := h
  refine ⟨_, (pss_one (ps_ret (pe_h h__law_take (hr.mono (by decide)) (pa_cons (pv 0) (pa_cons (pe_lst (pa_cons pe_non (pa_cons pe_int (pa_cons pe_bl (pa_cons pe_str (pa_cons pe_str (pa_cons (pe_tup pa_nil) (pa_cons (pe_lst pa_nil) (pa_cons pe_dnewK (pa_cons (pe_tup (pa_cons pe_str pa_nil)) (pa_cons pe_int pa_nil))))))))))) pa_nil))))), ?_⟩
  refine ⟨_, rfl, by show 0 ≤ sizeLine; decide, fun q1 h1 => ⟨by show 0 ≤ sizeLine; decide, fun q2 h2 => fun q3 h3 => ⟨by show 1 ≤ sizeLine; decide, fun q4 h4 => ⟨by show 10 ≤ sizeLine; decide, fun M hM => ?_⟩⟩⟩⟩
  refine at_heap2 (fun Hx => Same H Hx ∧ Hx q1 = some (.tup []) ∧ Hx q2 = some (.lst []) ∧ Hx q3 = some (.dK []) ∧ Hx q4 = some (.tup [.str "a"]) ∧ Hx M = some (.lst [.non, .int 0, .bl true, .str "hands 1\nwork a 1/2", .str "", .ref q1, .ref q2, .ref q3, .ref q4, .int 3])) ⟨(same_new h1).trans ((same_new h2).trans ((same_new h3).trans ((same_new h4).trans (same_new hM)))), same_new hM _ _ (same_new h4 _ _ (same_new h3 _ _ (same_new h2 _ _ upd_same))), same_new hM _ _ (same_new h4 _ _ (same_new h3 _ _ upd_same)), same_new hM _ _ (same_new h4 _ _ upd_same), same_new hM _ _ upd_same, upd_same⟩ ?_
  rintro He ⟨se, f1, f2, f3, f4, fM⟩
  have m1 : q1 ≠ b := hB.off h1
  have m2 : q2 ≠ b := (hB.on (same_new h1)).off h2
  have m3 : q3 ≠ b := (hB.on ((same_new h1).trans (same_new h2))).off h3
  have m4 : q4 ≠ b := (hB.on ((same_new h1).trans ((same_new h2).trans (same_new h3)))).off h4
  have nM : M ≠ b := (hB.on ((same_new h1).trans ((same_new h2).trans ((same_new h3).trans (same_new h4))))).off hM
  clear hM h4 h3 h2 h1
  have Be := hB.on se
  have OM : ∀ v ∈ [V.non, .int 0, .bl true, .str "hands 1\nwork a 1/2", .str "", .ref q1, .ref q2, .ref q3, .ref q4, .int 3], (∃ o, AnyV K (hid b He) v o) ∧ Flat v := by
    intro v hv
    rcases List.mem_cons.mp hv with rfl | hv
    · exact ⟨⟨some .none, .non⟩, .inr (.inl rfl)⟩
    rcases List.mem_cons.mp hv with rfl | hv
    · exact ⟨⟨some (.int 0), .int _⟩, .inr (.inr (.inr (.inl ⟨_, rfl⟩)))⟩
    rcases List.mem_cons.mp hv with rfl | hv
    · exact ⟨⟨some (.bool true), .bl _⟩, .inr (.inr (.inl ⟨_, rfl⟩))⟩
    rcases List.mem_cons.mp hv with rfl | hv
    · exact ⟨⟨some (.str _), .str _⟩, .inr (.inr (.inr (.inr ⟨_, rfl⟩)))⟩
    rcases List.mem_cons.mp hv with rfl | hv
    · exact ⟨⟨some (.str _), .str _⟩, .inr (.inr (.inr (.inr ⟨_, rfl⟩)))⟩
    rcases List.mem_cons.mp hv with rfl | hv
    · exact ⟨⟨some (.tuple []), .tup (SqT.of ((hid_ne m1).trans f1)) .nil⟩, .inl ⟨_, rfl⟩⟩
    rcases List.mem_cons.mp hv with rfl | hv
    · exact ⟨⟨some (.list []), .lst (SqL.of ((hid_ne m2).trans f2)) .nil⟩, .inl ⟨_, rfl⟩⟩
    rcases List.mem_cons.mp hv with rfl | hv
    · exact ⟨⟨none, _, rfl, (hid_ne m3).trans f3⟩, .inl ⟨_, rfl⟩⟩
    rcases List.mem_cons.mp hv with rfl | hv
    · exact ⟨⟨some (.tuple [.str "a"]), .tup (SqT.of ((hid_ne m4).trans f4)) (.cons (.str _) .nil)⟩, .inl ⟨_, rfl⟩⟩
    rcases List.mem_cons.mp hv with rfl | hv
    · exact ⟨⟨some (.int 3), .int _⟩, .inr (.inr (.inr (.inl ⟨_, rfl⟩)))⟩
    · cases hv
  refine ⟨b, M, _, rfl, Be, SqL.of ((hid_ne nM).trans fM), (show 0 < 10 by decide), (show 10 ≤ 1000 by decide), fun v H' hv b1 B1 => ?_⟩
  obtain ⟨⟨o, ho⟩, fl⟩ := OM v hv
  exact q v H' ((But.of_same se).trans b1) B1 (ho.mono b1.hid).noLot fl
end
end Ts
namespace Ts
open PySem PySem.Spec PyProof.Rows L2 L2H LamX
section
variable {P : Program} {w : World} {K : PySem.W.Frag} {mg : Str → Option Value} {base : Heap}
theorem has_asked47 {C : Addr} {c : Cls9} {b3 : Bas3} {cd PT : Addr} {T : List (Addr × Str)} (D : DefAtC K mg "_law_asked" s__law_asked cd) (TB : TabB base mg cd PT) (hmT : (PT, (("_law_asked" : Str) ++ ".<locals>." ++ "<lambda>")) ∈ T) (hu2 : ∀ p ∈ T, p.1 = PT → p.2 = ("_law_asked" : Str) ++ ".<locals>." ++ "<lambda>") (B : Blt0 mg) (N : ErrN9 mg c b3) {CI : Addr} (EL : SortI K c b3 c.l 0 "NotALot") (EC : SortI K c b3 CI 7 "InvalidCounts") (D__law_caught : DefAt K mg "_law_caught" s__law_caught) (h__law_sort : HasP P w K mg base 1 "_law_sort" ["_law_e"] (spSort K c))
    (hx_plan : HasX P w K mg base 6 "plan" ["lot", "counts"] (spPlan K C c.l CI)) (hqx_longest : HasQX P w K mg base 6 "longest" ["lot", "counts"] ["counts", "lot"] back (spLongest K C c.l CI)) (hx_least_more : HasX P w K mg base 6 "least_more" ["lot", "counts"] (spLeast K C c.l CI)) :
    HasG P w K mg base 11 "_law_asked" ["_law_thing", "_law_some"] (spAsked47 K C T) := by
  refine D.hasG (fun _ _ _ _ _ _ us hl => match us, hl with | [_, _], _ => rfl) fun f fd F hcode => fun_gc F hcode sc__law_asked (fun vs H Q E h => ?_) (fun A outer s H vs Q hg0 hr h => ?_)
  · obtain ⟨v, u, o, t, tt, x, rfl, _⟩ := h; rfl
  obtain ⟨v, u, o, t, tt, x, rfl, hT, hv, hu, hG, hd, q⟩ := h
  have hg : (A.deeper (envOfC "_law_asked" (defScope s__law_asked) s.heap.objs.size f (.ref cd))).guards = some [] := hg0
  have r1 : ∀ {Hm : Hp} {Qv : VK}, (∀ (l : Addr) (H2 : Hp), Same Hm H2 → H2 l = some (.tup [.str tt, x]) → Qv (.ref l) H2) → o = none → Raise1 c.l "given" v Hm (CaughtE K c b3 Qv) := fun {Hm Qv} qv e => by
    rcases hd with ⟨_, rfl, rfl⟩ | ⟨z, _⟩
    · exact raise_caught EL rfl qv
    · exact absurd e z
  have r2 : ∀ {Hm : Hp} {Qv : VK}, (∀ (l : Addr) (H2 : Hp), Same Hm H2 → H2 l = some (.tup [.str tt, x]) → Qv (.ref l) H2) → ∀ (n : Nat) (js : List Job) (y : V), o = some (n, js) → wrongC t = some y → Raise1 CI "index" y Hm (CaughtE K c b3 Qv) := fun {Hm Qv} qv n js y e ey => by
    rcases hd with ⟨z, _⟩ | ⟨_, ew, rfl⟩
    · rw [e] at z; cases z
    · rw [ey] at ew; cases Option.some.inj ew
      exact raise_caught EC rfl qv
  have r3 : ∀ {α : Prop} (n : Nat) (js : List Job) (hs : List Nat), o = some (n, js) → t = hsO hs → 0 < hs.length → hs.length ≤ 60 → (∀ m ∈ hs, m ≤ 6) → α := fun {α} n js hs e1 e2 h0 h6 hb => by
    rcases hd with ⟨z, _⟩ | ⟨_, ew, _⟩
    · rw [e1] at z; cases z
    · rw [e2, wrongC_none h0 h6 hb] at ew; cases ew
  have a1 : ∀ {Hm : Hp} {Qv : VK}, ExtN H Hm → (∀ (l : Addr) (H2 : Hp), Same Hm H2 → H2 l = some (.tup [.str tt, x]) → Qv (.ref l) H2) → spPlan K C c.l CI [v, u] Hm (CaughtQ Qv) (CaughtE K c b3 Qv) := fun {Hm Qv} y qv =>
    ⟨v, u, o, t, rfl, hv.ext y, hu.ext y, hG, r1 qv, r2 qv, fun n js hs e1 e2 e3 e4 e5 => r3 n js hs e1 e2 e3 e4 e5⟩
  have a2 : ∀ {Hm : Hp} {Qv : VK}, ExtN H Hm → (∀ (l : Addr) (H2 : Hp), Same Hm H2 → H2 l = some (.tup [.str tt, x]) → Qv (.ref l) H2) → spLongest K C c.l CI [v, u] Hm (CaughtQ Qv) (CaughtE K c b3 Qv) := fun {Hm Qv} y qv =>
    ⟨v, u, o, t, rfl, hv.ext y, hu.ext y, hG, r1 qv, r2 qv, fun n js hs e1 e2 e3 e4 e5 => r3 n js hs e1 e2 e3 e4 e5⟩
  have a3 : ∀ {Hm : Hp} {Qv : VK}, ExtN H Hm → (∀ (l : Addr) (H2 : Hp), Same Hm H2 → H2 l = some (.tup [.str tt, x]) → Qv (.ref l) H2) → spLeast K C c.l CI [v, u] Hm (CaughtQ Qv) (CaughtE K c b3 Qv) := fun {Hm Qv} y qv =>
    ⟨v, u, o, t, rfl, hv.ext y, hu.ext y, hG, r1 qv, r2 qv, fun n js hs e1 e2 e3 e4 e5 => r3 n js hs e1 e2 e3 e4 e5⟩
  refine ⟨_, (pss_cons (ps_set (i := 2) sc__law_asked.nd rfl (.inl rfl) (pe_lst (pa_cons (pe_caught3 (k := 8) D__law_caught N B h__law_sort hg (hr.mono (by decide)) (by decide) TB rfl hmT hu2 (lamS_by (sc := defScope s__law_asked) (by decide +kernel)) (hbody := fun A1 o1 s1 H1 E1 f1 c1 hrL => (pe_x hx_plan (hrL.mono (by decide)) (takes_of (E := E1) rfl rfl rfl rfl) (pa_cons (pv 0) (pa_cons (pv 1) pa_nil))))) pa_nil)))
      (pss_cons (ps_expr (pe_bm PySem.F.plainAttrs_list PySem.F.slot_list_append PySem.F.type_list_append mt_append (pv 2) (pa_cons (pe_caught3 (k := 8) D__law_caught N B h__law_sort hg (hr.mono (by decide)) (by decide) TB rfl hmT hu2 (lamS_by (sc := defScope s__law_asked) (by decide +kernel)) (hbody := fun A1 o1 s1 H1 E1 f1 c1 hrL => (pe_hqx hqx_longest (hrL.mono (by decide)) (takes_of (E := E1) rfl rfl rfl rfl) (pk_cons (pv 1) (pk_cons (pv 0) pk_nil))))) pa_nil)))
      (pss_cons (ps_expr (pe_bm PySem.F.plainAttrs_list PySem.F.slot_list_append PySem.F.type_list_append mt_append (pv 2) (pa_cons (pe_caught3 (k := 8) D__law_caught N B h__law_sort hg (hr.mono (by decide)) (by decide) TB rfl hmT hu2 (lamS_by (sc := defScope s__law_asked) (by decide +kernel)) (hbody := fun A1 o1 s1 H1 E1 f1 c1 hrL => (pe_x hx_least_more (hrL.mono (by decide)) (takes_of (E := E1) rfl rfl rfl rfl) (pa_cons (pv 0) (pa_cons (pv 1) pa_nil))))) pa_nil)))
      (pss_one (ps_ret (pv 2)))))), ?_⟩
  refine ⟨hT, fun H1 y1 T1 => caught_by ⟨_, rfl, _, rfl, a1 y1 fun l1 H2 s2 g1 => ⟨by show 1 ≤ sizeLine; decide, fun lt hlt => ?_⟩⟩⟩
  refine at_heap2 (fun Hx => ∃ xs, Told T H Hx lt xs (List.replicate 1 (tt, x))) ⟨_, Told.first y1 T1 s2 g1 hlt⟩ ?_
  clear hlt g1 s2 y1 T1 H1 H2
  rintro H3 ⟨xs, P3⟩
  dsimp only [List.set]
  refine ⟨_, rfl, .inl ⟨rfl, _, SqL.of P3.l⟩, P3.T, fun H1 y1 T1 => caught_by ⟨_, rfl, _, rfl, rfl, a2 (P3.x.trans y1) fun l1 H2 s2 g1 => ?_⟩⟩
  refine ⟨lt, _, _, rfl, rfl, s2 _ _ (y1 _ _ P3.l fun _ z => by cases z), small1000 (by rw [P3.ps.length]; show 1 ≤ 1000; decide), ?_⟩
  refine at_heap (fun Hx => ∃ xs, Told T H Hx lt xs (List.replicate 2 (tt, x))) ⟨_, P3.next (w := (tt, x)) y1 T1 s2 g1⟩ ?_
  clear g1 s2 y1 T1 H1 H2 P3 H3 xs
  rintro H3 ⟨xs, P3⟩
  refine ⟨_, rfl, .inl ⟨rfl, _, SqL.of P3.l⟩, P3.T, fun H1 y1 T1 => caught_by ⟨_, rfl, _, rfl, a3 (P3.x.trans y1) fun l1 H2 s2 g1 => ?_⟩⟩
  refine ⟨lt, _, _, rfl, rfl, s2 _ _ (y1 _ _ P3.l fun _ z => by cases z), small1000 (by rw [P3.ps.length]; show 2 ≤ 1000; decide), ?_⟩
  refine at_heap (fun Hx => ∃ xs, Told T H Hx lt xs (List.replicate 3 (tt, x))) ⟨_, P3.next (w := (tt, x)) y1 T1 s2 g1⟩ ?_
  clear g1 s2 y1 T1 H1 H2 P3 H3 xs
  rintro H3 ⟨xs, P3⟩
  exact ⟨_, rfl, q lt H3 xs P3⟩
end
end Ts
namespace Ts
open PySem PySem.Spec PyProof.Rows L2 L2H LamX
section
variable {P : Program} {w : World} {K : PySem.W.Frag} {mg : Str → Option Value} {base : Heap}
theorem has_right47 {C CI : Addr} {c : Cls9} {Tb : List (Addr × Str)} (D : DefAt K mg "_law_right" s__law_right) (B : Blt0 mg) (T : LotC K mg C) (hL : HasM P w K mg base 6 C ["self", "text"] (spInit K C))
    (h__law_fitting : Has P w K mg base 4 "_law_fitting" ["_law_jar_here", "_law_most"] (spFitJ K)) (h__law_odd : Has P w K mg base 3 "_law_odd" ["_law_jar_here"] (spOddJ K)) (h__law_text : Has P w K mg base 1 "_law_text" ["_law_lot_here"] (spTextJ K)) (h__law_dig : Has P w K mg base 1 "_law_dig" ["_law_jar_here", "_law_many"] spLadle)
    (h__law_asked : HasG P w K mg base 11 "_law_asked" ["_law_thing", "_law_some"] (spAsked47 K C Tb)) (h_longest : Has P w K mg base 6 "longest" ["lot", "counts"] (spLongestW K C c.l CI)) :
    HasG P w K mg base 12 "_law_right" ["_law_jar_here"] (spRightT Tb) := by
  refine D.hasG (fun _ _ _ _ _ _ us hl => match us, hl with | [_], _ => rfl) fun f fd F => fun_g F sc__law_right (fun vs H Q E h => ?_) (fun cdv A outer s H vs Q hg0 hr h => ?_)
  · obtain ⟨b, rfl, _⟩ := h; rfl
  obtain ⟨b, rfl, hB, hT, q⟩ := h
  have hg : (A.deeper (envOfC "_law_right" (defScope s__law_right) s.heap.objs.size f cdv)).guards = some [] := hg0
  refine ⟨_, (pss_cons (ps_par (i := 1) (j := 2) (by rfl) sc__law_right.nd rfl rfl (by decide) rfl rfl (pa_cons (pe_h h__law_fitting (hr.mono (by decide)) (pa_cons (pv 0) (pa_cons pe_int pa_nil))) (pa_cons (pe_h h__law_odd (hr.mono (by decide)) (pa_cons (pv 0) pa_nil)) pa_nil)) (by rfl))
      (pss_cons (ps_set (i := 3) sc__law_right.nd rfl (.inl rfl) (pe_hm hL T.mgC (hr.mono (by decide)) (pa_cons (pe_h h__law_text (hr.mono (by decide)) (pa_cons (pv 1) pa_nil)) pa_nil)))
      (pss_cons (ps_set (i := 4) sc__law_right.nd rfl (.inl rfl) (pe_op (op_repN rfl) (pe_tup (pa_cons (pe_ix ix_tup (pv 1) pe_int (fun _ _ => rfl)) pa_nil)) (pe_h h__law_dig (hr.mono (by decide)) (pa_cons (pv 0) (pa_cons pe_int pa_nil)))))
      (pss_cons (ps_for PassesOwn.never rfl (pi_list (pe_lst (pa_cons pe_int (pa_cons (pe_un un_neg pe_int) (pa_cons pe_non (pa_cons pe_bl (pa_cons pe_str (pa_cons (pe_tup (pa_cons pe_int pa_nil)) (pa_cons (pe_lst (pa_cons pe_int pa_nil)) (pa_cons pe_dnewK pa_nil)))))))))) (pg_name (i := 5) sc__law_right.nd rfl (.inl rfl)) (pss_one (ps_if (pt_cmpR (op_neS (hu64 hr)) (pe_g h__law_asked hg (hr.mono (by decide)) (pa_cons (pv 3) (pa_cons (pe_op op_catU (pv 4) (pe_tup (pa_cons (pv 5) (pa_cons pe_int pa_nil)))) pa_nil))) (pe_op op_rep (pe_lst (pa_cons (pe_tup (pa_cons pe_str (pa_cons (pe_callB call_len_seq (by rfl) B.zlen (by decide +kernel) (pa_cons (pv 4) pa_nil)) pa_nil))) pa_nil)) pe_int) (nomark _)) (pss_one (ps_ret pe_bl)) pss_nil)))
      (pss_cons (ps_for PassesOwn.never rfl (pi_list (pe_lst (pa_cons pe_non (pa_cons (pe_tup pa_nil) (pa_cons (pe_lst (pa_cons pe_int pa_nil)) (pa_cons pe_int (pa_cons pe_str (pa_cons pe_dnewK (pa_cons pe_bl pa_nil))))))))) (pg_name (i := 6) sc__law_right.nd rfl (.inl rfl)) (pss_cons (ps_if (pt_cmpR (op_neS (hu64 hr)) (pe_g h__law_asked hg (hr.mono (by decide)) (pa_cons (pv 3) (pa_cons (pv 6) pa_nil))) (pe_op op_rep (pe_lst (pa_cons (pe_tup (pa_cons pe_str (pa_cons pe_non pa_nil))) pa_nil)) pe_int) (nomark _)) (pss_one (ps_ret pe_bl)) pss_nil)
      (pss_one (ps_if (pt_cmpR (op_neS (hu64 hr)) (pe_g h__law_asked hg (hr.mono (by decide)) (pa_cons (pv 2) (pa_cons (pv 6) pa_nil))) (pe_op op_rep (pe_lst (pa_cons (pe_tup (pa_cons pe_str (pa_cons (pv 2) pa_nil))) pa_nil)) pe_int) (nomark _)) (pss_one (ps_ret pe_bl)) pss_nil))))
      (pss_cons (ps_if (pt_cmpR (op_neS (hu64 hr)) (pe_g h__law_asked hg (hr.mono (by decide)) (pa_cons (pv 3) (pa_cons (pe_op (op_rep1 rfl) (pe_tup (pa_cons (pe_ix ix_tup (pv 1) pe_int (fun _ _ => rfl)) pa_nil)) pe_int) pa_nil))) (pe_op op_rep (pe_lst (pa_cons (pe_tup (pa_cons pe_str (pa_cons pe_int pa_nil))) pa_nil)) pe_int) (nomark _)) (pss_one (ps_ret pe_bl)) pss_nil)
      (pss_cons (ps_if (pt_cmpR (op_neS (hu64 hr)) (pe_g h__law_asked hg (hr.mono (by decide)) (pa_cons (pv 3) (pa_cons (pe_op op_catU (pe_tup (pa_cons pe_int pa_nil)) (pe_op (op_rep1 rfl) (pe_tup (pa_cons (pe_ix ix_tup (pv 1) pe_int (fun _ _ => rfl)) pa_nil)) pe_int)) pa_nil))) (pe_op op_rep (pe_lst (pa_cons (pe_tup (pa_cons pe_str (pa_cons pe_int pa_nil))) pa_nil)) pe_int) (nomark _)) (pss_one (ps_ret pe_bl)) pss_nil)
      (pss_one (ps_ret (pe_cmpR op_eq (pe_h h_longest (hr.mono (by decide)) (pa_cons (pv 3) (pa_cons (pe_op (op_rep1 rfl) (pe_tup (pa_cons (pe_ix ix_tup (pv 1) pe_int (fun _ _ => rfl)) pa_nil)) pe_int) pa_nil))) pe_int (nomark _))))))))))), ?_⟩
  -- the lot, and a thing that is none
  refine ⟨_, rfl, b, 3, rfl, hB, by decide, by decide, fun n js p qq H2 n1 n6 l0 l3 G D12 fit b2 B2 fp ep dr => ?_⟩
  have l6 : js.length ≤ 6 := Nat.le_trans l3 (by decide)
  refine ⟨_, rfl, b, rfl, B2, fun v H3 b3' B3 hN fl => ?_⟩
  have np : p ≠ b := tup_off ep B2
  have ep3 := b3' _ _ np ep
  have dr3 := dr.mono b3'.hid
  have b03 := b2.trans b3'
  refine ⟨_, _, rfl, ?_⟩
  dsimp only [List.set]
  refine ⟨_, rfl, p, qq, n, js, rfl, SqT.of ep3, dr3.mono hid_sub, G.mono (by decide), by omega, by omega, fun H5 s5 => ?_⟩
  intro x dx hx hdx hnx
  refine ⟨x, dx, n, js, rfl, upd_same, n1, n6, G, l0, l6, fun H6 b6 L6 => ⟨rfl, ?_⟩⟩
  have s6 := s5.trans (lot_same b6 hx hdx)
  have B6 := B3.on s6
  obtain ⟨z1, z2, z3, eB6⟩ := id B6
  have S6 : St34 K C b x n js v H6 := ⟨B6, (L6.hide eB6).ext hid_hid2, (hN.mono (hid_same (b := b) s6)).ext hid_hid2⟩
  have ep6 := s6 _ _ ep3
  have b06 : Ext2 b H H6 := Ext2.but (b03.trans' s6)
  have T6 : Tabs Tb H6 := tabs_but (tabs_but hT hB b03) B3 (But.of_same s6)
  clear eB6 z1 z2 z3 L6 b6 hx hdx hnx s5 s6 hN dr3 ep3 B3 b03 b3' b2 dr ep B2 B6
  dsimp only [L2.start, List.map, List.set]
  -- the counts ahead
  refine ⟨_, rfl, p, _, 0, .int (n : Int), rfl, rfl, SqT.of ep6, atI_nat (j := 0) rfl, by show 1 ≤ sizeLine; decide, fun pt hpt => ?_⟩
  have st := same_new (o := .tup [V.int (n : Int)]) hpt
  refine ⟨_, rfl, b, 9, rfl, S6.B.on st, by decide, by decide, fun d H8 d0 d1 b8 B8 => ?_⟩
  obtain ⟨k, rfl⟩ := Int.eq_ofNat_of_zero_le d0
  refine ⟨pt, k, .int (n : Int), rfl, rfl, sqt_bas (S6.B.on st) b8 (SqT.of upd_same), by omega, fun pa H9 s9 ha => ?_⟩
  have x69 : Ext2 b H6 H9 := ((Ext2.same st).trans (Ext2.but b8)).trans (Ext2.same s9)
  have S9 := S6.step x69 (B8.on s9)
  have T9 : Tabs Tb H9 := (tabs_but (T6.ext st) (S6.B.on st) b8).ext s9
  have ep9 := x69 _ _ (tup_off ep6 S6.B) (fun _ z => by cases z) ep6
  have x09 := b06.trans x69
  clear hpt st b8 B8 s9 x69 S6 T6 ep6 b06 d0
  have hG : ∀ n' js', (some (n, js) : Option (Nat × List Job)) = some (n', js') → Good 16 js' ∧ 0 < js'.length ∧ js'.length ≤ 6 := fun n' js' e => by cases e; exact ⟨G, l0, l6⟩
  have hk8 : k ≤ 8 := by omega
  dsimp only [List.set]
  -- what is no count
  refine ⟨_, rfl, by show 1 ≤ sizeLine; decide, fun q1 h1 => ⟨by show 1 ≤ sizeLine; decide, fun q2 h2 => fun q3 h3 => ⟨by show 8 ≤ sizeLine; decide, fun M hM => ?_⟩⟩⟩
  have sA := ((same_new (o := .tup [V.int 1]) h1).trans (same_new (o := .lst [V.int 1]) h2)).trans ((same_new (o := .dK []) h3).trans (same_new (o := .lst [V.int 7, .int (-1), .non, .bl true, .str "1", .ref q1, .ref q2, .ref q3]) hM))
  have F : ∃ He, He = (upd (upd (upd (upd H9 q1 (.tup [V.int 1])) q2 (.lst [V.int 1])) q3 (.dK [])) M (.lst [V.int 7, .int (-1), .non, .bl true, .str "1", .ref q1, .ref q2, .ref q3])) ∧ Same H9 He ∧ He q1 = some (.tup [V.int 1]) ∧ He q2 = some (.lst [V.int 1]) ∧ He q3 = some (.dK []) ∧ He M = some (.lst [V.int 7, .int (-1), .non, .bl true, .str "1", .ref q1, .ref q2, .ref q3]) :=
    ⟨_, rfl, sA, ((same_new h2).trans ((same_new h3).trans (same_new hM))) _ _ upd_same, ((same_new h3).trans (same_new hM)) _ _ upd_same, same_new hM _ _ upd_same, upd_same⟩
  obtain ⟨He, eH, sE, f1, f2, f3, fM⟩ := F
  have bad : ∀ vb ∈ [V.int 7, .int (-1), .non, .bl true, .str "1", .ref q1, .ref q2, .ref q3], ∃ kb, KindV K He vb kb ∧ inRg kb 0 6 = false := fun vb hvb => by
    rcases List.mem_cons.mp hvb with rfl | hvb
    · exact ⟨some _, rfl, by decide +kernel⟩
    rcases List.mem_cons.mp hvb with rfl | hvb
    · exact ⟨some _, rfl, by decide +kernel⟩
    rcases List.mem_cons.mp hvb with rfl | hvb
    · exact ⟨none, ⟨"NoneType", by decide, .base .non⟩, rfl⟩
    rcases List.mem_cons.mp hvb with rfl | hvb
    · exact ⟨none, ⟨"bool", by decide, .base (.bl _)⟩, rfl⟩
    rcases List.mem_cons.mp hvb with rfl | hvb
    · exact ⟨none, ⟨"str", by decide, .base (.str _)⟩, rfl⟩
    rcases List.mem_cons.mp hvb with rfl | hvb
    · exact ⟨none, ⟨"tuple", by decide, .base (.tup f1)⟩, rfl⟩
    rcases List.mem_cons.mp hvb with rfl | hvb
    · exact ⟨none, ⟨"list", by decide, .base (.lst f2)⟩, rfl⟩
    rcases List.mem_cons.mp hvb with rfl | hvb
    · exact ⟨none, ⟨"dict", by decide, .base (.dK f3)⟩, rfl⟩
    · cases hvb
  rw [← eH]
  have SE := S9.same sE
  have TE := T9.ext sE
  have haE := sameT sE ha
  have epE := sE _ _ ep9
  have x0E := x09.trans (Ext2.same sE)
  clear eH sA h1 h2 h3 hM f1 f2 f3 sE S9 T9 ha ep9 x09
  refine ⟨M, rfl, ⟨_, SqL.of fM⟩, for_list (K := K) (a := M) (xs := [V.int 7, .int (-1), .non, .bl true, .str "1", .ref q1, .ref q2, .ref q3]) (fun i σ Hn => ExtN He Hn ∧ Tabs Tb Hn ∧ ∃ v5, σ = [some (.ref b), some (.ref p), some v, some (.ref x), some (.ref pa), v5, none]) ⟨ExtN.refl _, TE, _, rfl⟩ (fun _ _ _ _ z => sql_ext (SqL.of fM) z.1) ?_ ?_⟩
  · rintro i vb σ Hn hvb ⟨xn, Tn, v5, rfl⟩
    obtain ⟨kb, hkb, hin⟩ := bad vb (List.mem_of_getElem? hvb)
    have hkn := hkb.ext xn
    have Sn := SE.ext xn
    have han := sqt_ext haE xn
    dsimp only [List.set]
    refine ⟨_, rfl, _, rfl, _, rfl, by show 2 ≤ sizeLine; decide, fun p2 hp2 => ?_⟩
    have s2 := same_new (o := .tup [vb, V.int 9]) hp2
    refine ⟨pa, p2, _, _, rfl, rfl, sameT s2 han, SqT.of upd_same, by rw [List.length_replicate, sizeLine_eq]; show k + 2 ≤ _; omega, fun p3 H11 s11 d11 f11 => ?_⟩
    have s211 := s2.trans s11
    have KA : KAll K H11 (List.replicate k (V.int (n : Int)) ++ [vb, .int 9]) (List.replicate k (some (n : Int)) ++ [kb, some 9]) := KAll.rep (show KindV K H11 (V.int (n : Int)) (some (n : Int)) from rfl) (.cons (hkn.ext (ExtN.of s211)) (.cons (show KindV K H11 (V.int 9) (some 9) from rfl) .nil)) k
    refine ⟨.ref x, .ref p3, some (n, js), _, "InvalidCounts", .int (k : Int), rfl, Tn.ext s211, ⟨x, rfl, (Sn.same s211).L.mono hid2_sub⟩, KA.thing f11, hG, .inr ⟨(fun z => by cases z), wrongC_rep n6 (by omega) (.inr hin), rfl⟩, fun l5 H8 xs5 P5 => ?_⟩
    refine ⟨_, rfl, pa, _, rfl, .inr (sqt_ext (sameT s211 han) P5.x), by show 2 ≤ sizeLine; decide, fun p0 hp0 => ⟨by show 1 ≤ sizeLine; decide, fun p1 hp1 => ⟨p1, (3 : Int), _, rfl, rfl, upd_same, by decide, by decide, by show 3 ≤ sizeLine; decide, fun p2 hp2 => ?_⟩⟩⟩
    have lk : (List.replicate k (V.int (n : Int))).length = k := List.length_replicate
    obtain ⟨sB, si⟩ := ne_rep (K := K) (k := 3) (w := "InvalidCounts") (u := .int (((List.replicate k (V.int (n : Int))).length : Nat) : Int)) P5.l (by rw [lk]; exact P5.ps) (.inr (.inr (.inr (.inl ⟨_, rfl⟩)))) hp0 hp1 hp2
    refine ⟨si, false, rfl, iteF ⟨(xn.trans (ExtN.of s211)).trans (P5.x.trans (ExtN.of sB)), P5.T.ext sB, _, rfl⟩⟩
  rintro σ Hn ⟨xn, Tn, v5, rfl⟩
  have Sn := SE.ext xn
  have epn := xn _ _ epE (fun _ z => by cases z)
  have x0n := x0E.trans (Ext2.ext xn)
  clear bad SE TE haE epE x0E fM xn He M q1 q2 q3
  dsimp only [List.set]
  -- what are no counts
  refine ⟨by show 0 ≤ sizeLine; decide, fun q1 h1 => ⟨by show 1 ≤ sizeLine; decide, fun q2 h2 => fun q3 h3 => ⟨by show 7 ≤ sizeLine; decide, fun M hM => ?_⟩⟩⟩
  have sA := ((same_new (o := .tup []) h1).trans (same_new (o := .lst [V.int 1]) h2)).trans ((same_new (o := .dK []) h3).trans (same_new (o := .lst [V.non, .ref q1, .ref q2, .int 3, .str "1", .ref q3, .bl true]) hM))
  have F : ∃ He, He = (upd (upd (upd (upd Hn q1 (.tup [])) q2 (.lst [V.int 1])) q3 (.dK [])) M (.lst [V.non, .ref q1, .ref q2, .int 3, .str "1", .ref q3, .bl true])) ∧ Same Hn He ∧ He q1 = some (.tup []) ∧ He q2 = some (.lst [V.int 1]) ∧ He q3 = some (.dK []) ∧ He M = some (.lst [V.non, .ref q1, .ref q2, .int 3, .str "1", .ref q3, .bl true]) :=
    ⟨_, rfl, sA, ((same_new h2).trans ((same_new h3).trans (same_new hM))) _ _ upd_same, ((same_new h3).trans (same_new hM)) _ _ upd_same, same_new hM _ _ upd_same, upd_same⟩
  obtain ⟨He, eH, sE, f1, f2, f3, fM⟩ := F
  have bad : ∀ vb ∈ [V.non, .ref q1, .ref q2, .int 3, .str "1", .ref q3, .bl true], ∃ tb, ThingS K He vb tb ∧ wrongC tb = some .non := fun vb hvb => by
    rcases List.mem_cons.mp hvb with rfl | hvb
    · exact ⟨none, ⟨"NoneType", by decide, .base .non⟩, rfl⟩
    rcases List.mem_cons.mp hvb with rfl | hvb
    · exact ⟨some [], KAll.thing .nil (SqT.of f1), rfl⟩
    rcases List.mem_cons.mp hvb with rfl | hvb
    · exact ⟨none, ⟨"list", by decide, .base (.lst f2)⟩, rfl⟩
    rcases List.mem_cons.mp hvb with rfl | hvb
    · exact ⟨none, ⟨"int", by decide, .base (.int _)⟩, rfl⟩
    rcases List.mem_cons.mp hvb with rfl | hvb
    · exact ⟨none, ⟨"str", by decide, .base (.str _)⟩, rfl⟩
    rcases List.mem_cons.mp hvb with rfl | hvb
    · exact ⟨none, ⟨"dict", by decide, .base (.dK f3)⟩, rfl⟩
    rcases List.mem_cons.mp hvb with rfl | hvb
    · exact ⟨none, ⟨"bool", by decide, .base (.bl _)⟩, rfl⟩
    · cases hvb
  rw [← eH]
  have SE := Sn.same sE
  have TE := Tn.ext sE
  have epE := sE _ _ epn
  have x0E := x0n.trans (Ext2.same sE)
  clear eH sA h1 h2 h3 hM f1 f2 f3 sE Sn Tn epn x0n
  refine ⟨M, rfl, ⟨_, SqL.of fM⟩, for_list (K := K) (a := M) (xs := [V.non, .ref q1, .ref q2, .int 3, .str "1", .ref q3, .bl true]) (fun i σ Hn => ExtN He Hn ∧ Tabs Tb Hn ∧ ∃ v6, σ = [some (.ref b), some (.ref p), some v, some (.ref x), some (.ref pa), v5, v6]) ⟨ExtN.refl _, TE, _, rfl⟩ (fun _ _ _ _ z => sql_ext (SqL.of fM) z.1) ?_ ?_⟩
  · rintro i vb σ Hm hvb ⟨xn, Tn, v6, rfl⟩
    obtain ⟨tb, htb, hw⟩ := bad vb (List.mem_of_getElem? hvb)
    have htn := htb.ext xn
    have Sn := SE.ext xn
    dsimp only [List.set]
    refine ⟨_, rfl, _, rfl, .ref x, vb, some (n, js), tb, "InvalidCounts", .non, rfl, Tn, ⟨x, rfl, Sn.L.mono hid2_sub⟩, htn, hG, .inr ⟨(fun z => by cases z), hw, rfl⟩, fun l5 H8 xs5 P5 => ?_⟩
    refine ⟨by show 2 ≤ sizeLine; decide, fun p0 hp0 => ⟨by show 1 ≤ sizeLine; decide, fun p1 hp1 => ⟨p1, (3 : Int), _, rfl, rfl, upd_same, by decide, by decide, by show 3 ≤ sizeLine; decide, fun p2 hp2 => ?_⟩⟩⟩
    obtain ⟨sB, si⟩ := ne_rep (K := K) (k := 3) (w := "InvalidCounts") (u := .non) P5.l P5.ps (.inr (.inl rfl)) hp0 hp1 hp2
    refine ⟨si, false, rfl, iteF ?_⟩
    clear si
    revert sB
    generalize upd (upd (upd H8 p0 (.tup [.str "InvalidCounts", .non])) p1 (.lst [.ref p0])) p2 (.lst (List.replicate (3 : Int).toNat [V.ref p0]).flatten) = H9
    intro sB
    have x9 : ExtN Hm H9 := P5.x.trans (ExtN.of sB)
    have T9 := P5.T.ext sB
    have S9 := Sn.ext x9
    have ht9 := htn.ext x9
    clear sB P5 hp0 hp1 hp2
    refine ⟨_, rfl, _, rfl, v, vb, none, tb, "NotALot", v, rfl, T9, S9.N.mono hid2_sub, ht9, (fun _ _ z => by cases z), .inl ⟨rfl, rfl, rfl⟩, fun l6' H10 xs6 P6 => ?_⟩
    refine ⟨_, rfl, by show 2 ≤ sizeLine; decide, fun p0 hp0 => ⟨by show 1 ≤ sizeLine; decide, fun p1 hp1 => ⟨p1, (3 : Int), _, rfl, rfl, upd_same, by decide, by decide, by show 3 ≤ sizeLine; decide, fun p2 hp2 => ?_⟩⟩⟩
    obtain ⟨sB, si⟩ := ne_rep (K := K) (k := 3) (w := "NotALot") (u := v) P6.l P6.ps fl hp0 hp1 hp2
    exact ⟨si, false, rfl, iteF ⟨xn.trans (x9.trans (P6.x.trans (ExtN.of sB))), P6.T.ext sB, _, rfl⟩⟩
  rintro σ Hm ⟨xn, Tm, v6, rfl⟩
  have Sm := SE.ext xn
  have epm := xn _ _ epE (fun _ z => by cases z)
  have x0m := x0E.trans (Ext2.ext xn)
  clear bad SE TE epE x0E fM xn He M q1 q2 q3
  -- too many
  refine ⟨_, rfl, _, rfl, p, _, 0, .int (n : Int), rfl, rfl, SqT.of epm, atI_nat (j := 0) rfl, by show 1 ≤ sizeLine; decide, fun pt hpt => ?_⟩
  refine ⟨pt, 61, .int (n : Int), rfl, rfl, SqT.of upd_same, by decide, by decide, fun pg Hg sg hg' => ?_⟩
  have sG := (same_new (o := .tup [V.int (n : Int)]) hpt).trans sg
  have e61 : ∀ {α : Type} (y : α), List.replicate 61 y = List.replicate 60 y ++ [y] := fun y => List.replicate_succ' (n := 60)
  rw [e61] at hg'
  have KA : KAll K Hg (List.replicate 60 (V.int (n : Int)) ++ [.int (n : Int)]) (List.replicate 60 (some (n : Int)) ++ [some (n : Int)]) := KAll.rep (show KindV K Hg (V.int (n : Int)) (some (n : Int)) from rfl) (.cons (show KindV K Hg (V.int (n : Int)) (some (n : Int)) from rfl) .nil) 60
  refine ⟨.ref x, .ref pg, some (n, js), _, "InvalidCounts", .int ((60 : Nat) : Int), rfl, Tm.ext sG, ⟨x, rfl, (Sm.same sG).L.mono hid2_sub⟩, KA.thing hg', hG, .inr ⟨(fun z => by cases z), wrongC_rep n6 (by decide) (.inl rfl), rfl⟩, fun l5 H8 xs5 P5 => ?_⟩
  refine ⟨by show 2 ≤ sizeLine; decide, fun p0 hp0 => ⟨by show 1 ≤ sizeLine; decide, fun p1 hp1 => ⟨p1, (3 : Int), _, rfl, rfl, upd_same, by decide, by decide, by show 3 ≤ sizeLine; decide, fun p2 hp2 => ?_⟩⟩⟩
  obtain ⟨sB, si⟩ := ne_rep (K := K) (k := 3) (w := "InvalidCounts") (u := .int 60) P5.l P5.ps (.inr (.inr (.inr (.inl ⟨_, rfl⟩)))) hp0 hp1 hp2
  refine ⟨si, false, rfl, iteF ?_⟩
  clear si
  revert sB
  generalize upd (upd (upd H8 p0 (.tup [.str "InvalidCounts", .int 60])) p1 (.lst [.ref p0])) p2 (.lst (List.replicate (3 : Int).toNat [V.ref p0]).flatten) = H9
  intro sB
  have x9 : ExtN Hm H9 := (ExtN.of sG).trans (P5.x.trans (ExtN.of sB))
  have T9 := P5.T.ext sB
  have S9 := Sm.ext x9
  have ep9 := x9 _ _ epm (fun _ z => by cases z)
  have x09 := x0m.trans (Ext2.ext x9)
  clear sB P5 hp0 hp1 hp2 hpt sg sG KA hg' x9 Sm Tm epm x0m
  -- the first one wrong
  refine ⟨_, rfl, by show 1 ≤ sizeLine; decide, fun pe hpe => ⟨_, rfl, p, _, 0, .int (n : Int), rfl, rfl, SqT.of (same_new hpe _ _ ep9), atI_nat (j := 0) rfl, by show 1 ≤ sizeLine; decide, fun pt hpt => ?_⟩⟩
  have s7 := (same_new (o := .tup [V.int 7]) hpe).trans (same_new (o := .tup [V.int (n : Int)]) hpt)
  have e7 : (upd (upd H9 pe (.tup [V.int 7])) pt (.tup [V.int (n : Int)])) pe = some (.tup [V.int 7]) := same_new hpt _ _ upd_same
  refine ⟨pt, 60, .int (n : Int), rfl, rfl, SqT.of upd_same, by decide, by decide, fun pg Hg sg hg' => ?_⟩
  refine ⟨pe, pg, _, _, rfl, rfl, SqT.of (sg _ _ e7), hg', by rw [List.length_replicate, sizeLine_eq]; decide, fun ph Hh sh dh hh => ?_⟩
  have sG := (s7.trans sg).trans sh
  have KA : KAll K Hh ([V.int 7] ++ List.replicate 60 (.int (n : Int))) (some 7 :: (List.replicate 60 (some (n : Int)) ++ [])) := by
    have := KAll.rep (K := K) (H := Hh) (show KindV K Hh (V.int (n : Int)) (some (n : Int)) from rfl) .nil 60
    rw [List.append_nil] at this
    exact .cons (show KindV K Hh (V.int 7) (some 7) from rfl) this
  refine ⟨.ref x, .ref ph, some (n, js), _, "InvalidCounts", .int ((0 : Nat) : Int), rfl, T9.ext sG, ⟨x, rfl, (S9.same sG).L.mono hid2_sub⟩, KA.thing hh, hG, .inr ⟨(fun z => by cases z), wrongC_rep (n := n) n6 (k := 0) (by decide) (.inr (by decide +kernel)), rfl⟩, fun l5 H8 xs5 P5 => ?_⟩
  refine ⟨by show 2 ≤ sizeLine; decide, fun p0 hp0 => ⟨by show 1 ≤ sizeLine; decide, fun p1 hp1 => ⟨p1, (3 : Int), _, rfl, rfl, upd_same, by decide, by decide, by show 3 ≤ sizeLine; decide, fun p2 hp2 => ?_⟩⟩⟩
  obtain ⟨sB, si⟩ := ne_rep (K := K) (k := 3) (w := "InvalidCounts") (u := .int 0) P5.l P5.ps (.inr (.inr (.inr (.inl ⟨_, rfl⟩)))) hp0 hp1 hp2
  refine ⟨si, false, rfl, iteF ?_⟩
  clear si
  revert sB
  generalize upd (upd (upd H8 p0 (.tup [.str "InvalidCounts", .int 0])) p1 (.lst [.ref p0])) p2 (.lst (List.replicate (3 : Int).toNat [V.ref p0]).flatten) = H10
  intro sB
  have x10 : ExtN H9 H10 := (ExtN.of sG).trans (P5.x.trans (ExtN.of sB))
  have T10 := P5.T.ext sB
  have S10 := S9.ext x10
  have ep10 := x10 _ _ ep9 (fun _ z => by cases z)
  have x010 := x09.trans (Ext2.ext x10)
  clear sB P5 hp0 hp1 hp2 hpt hpe sg sh sG s7 e7 KA hg' hh x10 S9 T9 ep9 x09
  -- the longest
  refine ⟨_, rfl, _, rfl, p, _, 0, .int (n : Int), rfl, rfl, SqT.of ep10, atI_nat (j := 0) rfl, by show 1 ≤ sizeLine; decide, fun pt hpt => ?_⟩
  refine ⟨pt, 60, .int (n : Int), rfl, rfl, SqT.of upd_same, by decide, by decide, fun pg Hg sg hg' => ?_⟩
  have sG := (same_new (o := .tup [V.int (n : Int)]) hpt).trans sg
  have hg2 : SqT K Hg pg (natV (List.replicate 60 n)) := by unfold natV; rw [List.map_replicate]; exact hg'
  have lR : (List.replicate 60 n).length = 60 := List.length_replicate
  refine long_call ((S10.same sG).L.mono hid2_sub) G l0 l6 hg2 (by omega) (by omega) (fun m hm => by rw [List.eq_of_mem_replicate hm]; exact n6) fun y H12 s12 LA => ⟨rfl, ?_⟩
  have al : aliveB js (List.replicate 60 n) 0 0 = true := alive_rep G (by rw [alive_fits G n]; exact decide_eq_true fit)
  have ey := long_alive LA
  rw [al, lR] at ey
  have ey := of_decide_eq_true ey.symm
  subst ey
  exact q _ (x010.trans (Ext2.same (sG.trans s12))) ((T10.ext sG).ext s12)
end
end Ts
namespace Ts
open PySem PySem.Spec PyProof.Rows L2 L2H LamX
section
variable {P : Program} {w : World} {K : PySem.W.Frag} {mg : Str → Option Value} {base : Heap}
theorem ok_lawJT {f : Addr} {fd : FuncData} {k : Nat} {T : List (Addr × Str)} (F : Fun K "law" "law" s_law f fd) (B : Blt0 mg) (h__law_jar : Has P w K mg base 2 "_law_jar" ["_law_cells", "_law_spot"] (spBasin K)) (h__law_right : HasG P w K mg base (k + 3) "_law_right" ["_law_jar_here"] (spRightT T)) :
    FnG P w K mg base (k + 4) f fd ["_law_cells"] (spLawT K T) := by
  refine fun_g F sc_law (fun vs H Q E h => ?_) (fun cdv A outer s H vs Q hg0 hr h => ?_)
  · obtain ⟨a, ns, rfl, _⟩ := h; rfl
  obtain ⟨a, ns, rfl, hS, hl, hT, q⟩ := h
  have hTb : Tabs T H := fun p hp => TabS.nil (hT p hp)
  have hg : (A.deeper (envOfC "law" (defScope s_law) s.heap.objs.size f cdv)).guards = some [] := hg0
  refine ⟨_, (pss_one (ps_ret (pe_callB (call_allB rfl) (by rfl) B.zall (by decide +kernel) (pa_cons (pe_lc (own := [("_law_k", 1)]) rfl sc_law.nd (pi_range1 (by rfl) B.zrange (pa_cons (pe_callB (call_max2 rfl) (by rfl) B.zmax (by decide +kernel) (pa_cons pe_int (pa_cons (pe_callB (call_min2 rfl) (by rfl) B.zmin (by decide +kernel) (pa_cons (pe_callB call_len_seq (by rfl) B.zlen (by decide +kernel) (pa_cons (pv 0) pa_nil)) (pa_cons pe_int pa_nil))) pa_nil))) pa_nil)) (blkOk_by (N := ["_law_cells", "_law_k"]) (sc := defScope s_law) (own := [("_law_k", 1)]) (by decide +kernel)) (fun _ _ _ _ _ => (pg_name (i := 1) sc_law.nd rfl (.inl rfl) (.inr rfl))) (fun _ _ _ _ _ => pts_nil) (fun _ _ _ _ _ => (pe_g h__law_right hg (hr.mono (by omega)) (pa_cons (pe_h h__law_jar (hr.mono (by omega)) (pa_cons (pv 0) (pa_cons (pv 1) pa_nil))) pa_nil)))) pa_nil)))), ?_⟩
  refine ⟨_, rfl, a, _, rfl, .inl hS, _, _, rfl, _, _, rfl, ?_⟩
  have em : (if (if ((ns.map V.int).length : Int) > (5 : Int) then (5 : Int) else ((ns.map V.int).length : Int)) > (2 : Int) then (if ((ns.map V.int).length : Int) > (5 : Int) then (5 : Int) else ((ns.map V.int).length : Int)) else 2) = ((max 2 (min ns.length 5) : Nat) : Int) := by
    rw [List.length_map]
    split <;> split <;> omega
  refine ⟨_, rfl, ?_⟩
  show _ ∧ _
  rw [em]
  refine ⟨by omega, by omega, fun pl hpl => ?_⟩
  have Tp : Tabs T (upd H pl (.lst [])) := hTb.ext (same_new hpl)
  refine lc_range (lo := 0) (n := (((max 2 (min ns.length 5) : Nat) : Int)).toNat) (fun i Hm => ExtN H Hm ∧ Tabs T Hm ∧ Hm pl = some (.lst ((List.replicate i true).map V.bl))) ⟨fun c o e _ => same_new hpl c o e, Tp, upd_same⟩ ?_ ?_
  · rintro i Hm hi ⟨sm, tm, em⟩
    have ec : (0 : Int) + (i : Int) = (i : Int) := by omega
    rw [ec]
    refine ⟨rfl, yesIf ⟨_, rfl, _, rfl, a, ns, i, rfl, sql_ext hS (fun c o e n => sm c o e n), hl, by omega, fun b H9 hb s9 hB => ⟨b, rfl, hB, tm.ext s9, fun Ha x9 T9 => ?_⟩⟩⟩
    have sa : ExtN Hm Ha := fun c o e n => x9 _ _ (ne_of_none e hb) n (s9 _ _ e)
    refine ⟨_, sa _ _ em (fun ps z => by cases z), by rw [List.length_map, List.length_replicate]; exact small1000 (by omega), fun c o e n => ?_, ?_, ?_⟩
    · rw [upd_ne (ne_of_none e hpl)]; exact sa _ _ (sm c o e n) n
    · exact tabs_lst T9 (sa _ _ em (fun ps z => by cases z)) But.set
    · rw [upd_same, List.replicate_succ', List.map_append]; rfl
  · rintro Hm ⟨sm, tm, em⟩
    refine ⟨pl, _, rfl, SqL.of em, ?_⟩
    have e : (List.replicate (((max 2 (min ns.length 5) : Nat) : Int)).toNat true).all id = true := List.all_eq_true.mpr fun x hx => by rw [List.eq_of_mem_replicate hx]; rfl
    rw [e]
    exact q Hm
end
end Ts
namespace Ts
open PySem PySem.Spec PyProof.Rows L2 L2H LamX
theorem all_mk {l : PySem.W.OpenLaw} {w : World} {K : PySem.W.Frag} {h : Heap} {mg : Str → Option Value} {fa C : Addr} (X : K.In h) (G : h.Ns mainGlobals mg) (hfa : mg "law" = some (.ref fa))
    {f0 : Addr} {od0 an0 : Option Addr} {sl0 : Array (Option Value)} {oc0 kV0 dc0 pm0 cd0 ct0 : Value}
    {f1 : Addr} {od1 an1 : Option Addr} {sl1 : Array (Option Value)} {oc1 kV1 dc1 pm1 cd1 ct1 : Value}
    {f2 : Addr} {od2 an2 : Option Addr} {sl2 : Array (Option Value)} {oc2 kV2 dc2 pm2 cd2 ct2 : Value}
    {f3 : Addr} {od3 an3 : Option Addr} {sl3 : Array (Option Value)} {oc3 kV3 dc3 pm3 cd3 ct3 : Value}
    {f4 : Addr} {od4 an4 : Option Addr} {sl4 : Array (Option Value)} {oc4 kV4 dc4 pm4 cd4 ct4 : Value}
    {f5 : Addr} {od5 an5 : Option Addr} {sl5 : Array (Option Value)} {oc5 kV5 dc5 pm5 cd5 ct5 : Value}
    {f6 : Addr} {od6 an6 : Option Addr} {sl6 : Array (Option Value)} {oc6 kV6 dc6 pm6 cd6 ct6 : Value}
    {f7 : Addr} {od7 an7 : Option Addr} {sl7 : Array (Option Value)} {oc7 kV7 dc7 pm7 cd7 ct7 : Value}
    {f8 : Addr} {od8 an8 : Option Addr} {sl8 : Array (Option Value)} {oc8 kV8 dc8 pm8 cd8 ct8 : Value}
    {f9 : Addr} {od9 an9 : Option Addr} {sl9 : Array (Option Value)} {oc9 kV9 dc9 pm9 cd9 ct9 : Value}
    {f10 : Addr} {od10 an10 : Option Addr} {sl10 : Array (Option Value)} {oc10 kV10 dc10 pm10 ct10 : Value} {cl10 pl10 : Addr}
    {f11 : Addr} {od11 an11 : Option Addr} {sl11 : Array (Option Value)} {oc11 kV11 dc11 pm11 cd11 ct11 : Value}
    {f12 : Addr} {od12 an12 : Option Addr} {sl12 : Array (Option Value)} {oc12 kV12 dc12 pm12 cd12 ct12 : Value}
    {f13 : Addr} {od13 an13 : Option Addr} {sl13 : Array (Option Value)} {oc13 kV13 dc13 pm13 cd13 ct13 : Value}
    {f14 : Addr} {od14 an14 : Option Addr} {sl14 : Array (Option Value)} {oc14 kV14 dc14 pm14 cd14 ct14 : Value}
    {f15 : Addr} {od15 an15 : Option Addr} {sl15 : Array (Option Value)} {oc15 kV15 dc15 pm15 cd15 ct15 : Value}
    {f16 : Addr} {od16 an16 : Option Addr} {sl16 : Array (Option Value)} {oc16 kV16 dc16 pm16 cd16 ct16 : Value}
    {f17 : Addr} {od17 an17 : Option Addr} {sl17 : Array (Option Value)} {oc17 kV17 dc17 pm17 cd17 ct17 : Value}
    {f18 : Addr} {od18 an18 : Option Addr} {sl18 : Array (Option Value)} {oc18 kV18 dc18 pm18 cd18 ct18 : Value}
    {f19 : Addr} {od19 an19 : Option Addr} {sl19 : Array (Option Value)} {oc19 kV19 dc19 pm19 cd19 ct19 : Value}
    {f20 : Addr} {od20 an20 : Option Addr} {sl20 : Array (Option Value)} {oc20 kV20 dc20 pm20 cd20 ct20 : Value}
    {f21 : Addr} {od21 an21 : Option Addr} {sl21 : Array (Option Value)} {oc21 kV21 dc21 pm21 cd21 ct21 : Value}
    {f22 : Addr} {od22 an22 : Option Addr} {sl22 : Array (Option Value)} {oc22 kV22 dc22 pm22 cd22 ct22 : Value}
    {f23 : Addr} {od23 an23 : Option Addr} {sl23 : Array (Option Value)} {oc23 kV23 dc23 pm23 cd23 ct23 : Value}
    {f24 : Addr} {od24 an24 : Option Addr} {sl24 : Array (Option Value)} {oc24 kV24 dc24 pm24 cd24 ct24 : Value}
    {f25 : Addr} {od25 an25 : Option Addr} {sl25 : Array (Option Value)} {oc25 kV25 dc25 pm25 cd25 ct25 : Value}
    {f26 : Addr} {od26 an26 : Option Addr} {sl26 : Array (Option Value)} {oc26 kV26 dc26 pm26 cd26 ct26 : Value}
    {f27 : Addr} {od27 an27 : Option Addr} {sl27 : Array (Option Value)} {oc27 kV27 dc27 pm27 cd27 ct27 : Value}
    {f28 : Addr} {od28 an28 : Option Addr} {sl28 : Array (Option Value)} {oc28 kV28 dc28 pm28 cd28 ct28 : Value}
    {f29 : Addr} {od29 an29 : Option Addr} {sl29 : Array (Option Value)} {oc29 kV29 dc29 pm29 cd29 ct29 : Value}
    {f30 : Addr} {od30 an30 : Option Addr} {sl30 : Array (Option Value)} {oc30 kV30 dc30 pm30 cd30 ct30 : Value}
    {f31 : Addr} {od31 an31 : Option Addr} {sl31 : Array (Option Value)} {oc31 kV31 dc31 pm31 cd31 ct31 : Value}
    {f32 : Addr} {od32 an32 : Option Addr} {sl32 : Array (Option Value)} {oc32 kV32 dc32 pm32 cd32 ct32 : Value}
    {f33 : Addr} {od33 an33 : Option Addr} {sl33 : Array (Option Value)} {oc33 kV33 dc33 pm33 cd33 ct33 : Value}
    {f34 : Addr} {od34 an34 : Option Addr} {sl34 : Array (Option Value)} {oc34 kV34 dc34 pm34 cd34 ct34 : Value}
    {f35 : Addr} {od35 an35 : Option Addr} {sl35 : Array (Option Value)} {oc35 kV35 dc35 pm35 cd35 ct35 : Value}
    {f36 : Addr} {od36 an36 : Option Addr} {sl36 : Array (Option Value)} {oc36 kV36 dc36 pm36 cd36 ct36 : Value}
    {f37 : Addr} {od37 an37 : Option Addr} {sl37 : Array (Option Value)} {oc37 kV37 dc37 pm37 cd37 ct37 : Value}
    {f38 : Addr} {od38 an38 : Option Addr} {sl38 : Array (Option Value)} {oc38 kV38 dc38 pm38 cd38 ct38 : Value}
    {f39 : Addr} {od39 an39 : Option Addr} {sl39 : Array (Option Value)} {oc39 kV39 dc39 pm39 cd39 ct39 : Value}
    {f40 : Addr} {od40 an40 : Option Addr} {sl40 : Array (Option Value)} {oc40 kV40 dc40 pm40 cd40 ct40 : Value}
    {fI : Addr} {odI anI : Option Addr} {slI : Array (Option Value)} {ocI kVI dcI pmI cdI ctI : Value}
    {fPshares : Addr} {odPshares anPshares : Option Addr} {slPshares : Array (Option Value)} {ocPshares kVPshares dcPshares pmPshares cdPshares ctPshares : Value} {pPshares : Addr} {rePshares : List Value}
    {CW : Addr}
    {fWI : Addr} {odWI anWI : Option Addr} {slWI : Array (Option Value)} {ocWI kVWI dcWI pmWI cdWI ctWI : Value}
    {fWis_alive : Addr} {odWis_alive anWis_alive : Option Addr} {slWis_alive : Array (Option Value)} {ocWis_alive kVWis_alive dcWis_alive pmWis_alive cdWis_alive ctWis_alive : Value}
    {fWcrews : Addr} {odWcrews anWcrews : Option Addr} {slWcrews : Array (Option Value)} {ocWcrews kVWcrews dcWcrews pmWcrews cdWcrews ctWcrews : Value}
    {fWchoices : Addr} {odWchoices anWchoices : Option Addr} {slWchoices : Array (Option Value)} {ocWchoices kVWchoices dcWchoices pmWchoices cdWchoices ctWchoices : Value}
    {fWahead_behind : Addr} {odWahead_behind anWahead_behind : Option Addr} {slWahead_behind : Array (Option Value)} {ocWahead_behind kVWahead_behind dcWahead_behind pmWahead_behind cdWahead_behind ctWahead_behind : Value}
    {fWnumbers_of : Addr} {odWnumbers_of anWnumbers_of : Option Addr} {slWnumbers_of : Array (Option Value)} {ocWnumbers_of kVWnumbers_of dcWnumbers_of pmWnumbers_of cdWnumbers_of ctWnumbers_of : Value}
    {e0 e1 e2 e3 e4 e5 e6 e7 e8 v0 v1 v2 : Addr}
    {fX0 : Addr} {odX0 anX0 : Option Addr} {slX0 : Array (Option Value)} {ocX0 kVX0 dcX0 pmX0 cdX0 ctX0 : Value}
    {fX7 : Addr} {odX7 anX7 : Option Addr} {slX7 : Array (Option Value)} {ocX7 kVX7 dcX7 pmX7 cdX7 ctX7 : Value}
    {t0 : Tok}
    {t1 : Tok}
    {t2 : Tok}
    {t3 : Tok}
    {t4 : Tok}
    {tMOST_COUNTS : Tok}
    (a0 : PySem.W.nsIn K mainGlobals "_law_cell" = some (some (.ref f0)))
    (l0 : K.lookup f0 = some ⟨oc0, od0, .func (PySem.W.fnOf "_law_cell" "_law_cell" (defArgs s__law_cell) (defBody s__law_cell) (defScope s__law_cell) .none kV0 dc0 pm0 an0 cd0 ct0), sl0⟩)
    (c0 : PySem.W.codeIn K cd0 "_law_cell" = true)
    (k0 : PySem.W.keepIn K (.ref f0) = true)
    (a1 : PySem.W.nsIn K mainGlobals "_law_jar" = some (some (.ref f1)))
    (l1 : K.lookup f1 = some ⟨oc1, od1, .func (PySem.W.fnOf "_law_jar" "_law_jar" (defArgs s__law_jar) (defBody s__law_jar) (defScope s__law_jar) .none kV1 dc1 pm1 an1 cd1 ct1), sl1⟩)
    (c1 : PySem.W.codeIn K cd1 "_law_jar" = true)
    (k1 : PySem.W.keepIn K (.ref f1) = true)
    (a2 : PySem.W.nsIn K mainGlobals "_law_dig" = some (some (.ref f2)))
    (l2 : K.lookup f2 = some ⟨oc2, od2, .func (PySem.W.fnOf "_law_dig" "_law_dig" (defArgs s__law_dig) (defBody s__law_dig) (defScope s__law_dig) .none kV2 dc2 pm2 an2 cd2 ct2), sl2⟩)
    (c2 : PySem.W.codeIn K cd2 "_law_dig" = true)
    (k2 : PySem.W.keepIn K (.ref f2) = true)
    (a3 : PySem.W.nsIn K mainGlobals "_law_take" = some (some (.ref f3)))
    (l3 : K.lookup f3 = some ⟨oc3, od3, .func (PySem.W.fnOf "_law_take" "_law_take" (defArgs s__law_take) (defBody s__law_take) (defScope s__law_take) .none kV3 dc3 pm3 an3 cd3 ct3), sl3⟩)
    (c3 : PySem.W.codeIn K cd3 "_law_take" = true)
    (k3 : PySem.W.keepIn K (.ref f3) = true)
    (a4 : PySem.W.nsIn K mainGlobals "_law_lot" = some (some (.ref f4)))
    (l4 : K.lookup f4 = some ⟨oc4, od4, .func (PySem.W.fnOf "_law_lot" "_law_lot" (defArgs s__law_lot) (defBody s__law_lot) (defScope s__law_lot) .none kV4 dc4 pm4 an4 cd4 ct4), sl4⟩)
    (c4 : PySem.W.codeIn K cd4 "_law_lot" = true)
    (k4 : PySem.W.keepIn K (.ref f4) = true)
    (a5 : PySem.W.nsIn K mainGlobals "_law_fitting" = some (some (.ref f5)))
    (l5 : K.lookup f5 = some ⟨oc5, od5, .func (PySem.W.fnOf "_law_fitting" "_law_fitting" (defArgs s__law_fitting) (defBody s__law_fitting) (defScope s__law_fitting) .none kV5 dc5 pm5 an5 cd5 ct5), sl5⟩)
    (c5 : PySem.W.codeIn K cd5 "_law_fitting" = true)
    (k5 : PySem.W.keepIn K (.ref f5) = true)
    (a6 : PySem.W.nsIn K mainGlobals "_law_text" = some (some (.ref f6)))
    (l6 : K.lookup f6 = some ⟨oc6, od6, .func (PySem.W.fnOf "_law_text" "_law_text" (defArgs s__law_text) (defBody s__law_text) (defScope s__law_text) .none kV6 dc6 pm6 an6 cd6 ct6), sl6⟩)
    (c6 : PySem.W.codeIn K cd6 "_law_text" = true)
    (k6 : PySem.W.keepIn K (.ref f6) = true)
    (a7 : PySem.W.nsIn K mainGlobals "_law_sort" = some (some (.ref f7)))
    (l7 : K.lookup f7 = some ⟨oc7, od7, .func (PySem.W.fnOf "_law_sort" "_law_sort" (defArgs s__law_sort) (defBody s__law_sort) (defScope s__law_sort) .none kV7 dc7 pm7 an7 cd7 ct7), sl7⟩)
    (c7 : PySem.W.codeIn K cd7 "_law_sort" = true)
    (k7 : PySem.W.keepIn K (.ref f7) = true)
    (a8 : PySem.W.nsIn K mainGlobals "_law_caught" = some (some (.ref f8)))
    (l8 : K.lookup f8 = some ⟨oc8, od8, .func (PySem.W.fnOf "_law_caught" "_law_caught" (defArgs s__law_caught) (defBody s__law_caught) (defScope s__law_caught) .none kV8 dc8 pm8 an8 cd8 ct8), sl8⟩)
    (c8 : PySem.W.codeIn K cd8 "_law_caught" = true)
    (k8 : PySem.W.keepIn K (.ref f8) = true)
    (a9 : PySem.W.nsIn K mainGlobals "_law_odd" = some (some (.ref f9)))
    (l9 : K.lookup f9 = some ⟨oc9, od9, .func (PySem.W.fnOf "_law_odd" "_law_odd" (defArgs s__law_odd) (defBody s__law_odd) (defScope s__law_odd) .none kV9 dc9 pm9 an9 cd9 ct9), sl9⟩)
    (c9 : PySem.W.codeIn K cd9 "_law_odd" = true)
    (k9 : PySem.W.keepIn K (.ref f9) = true)
    (a10 : PySem.W.nsIn K mainGlobals "_law_asked" = some (some (.ref f10)))
    (l10 : K.lookup f10 = some ⟨oc10, od10, .func (PySem.W.fnOf "_law_asked" "_law_asked" (defArgs s__law_asked) (defBody s__law_asked) (defScope s__law_asked) .none kV10 dc10 pm10 an10 (.ref cl10) ct10), sl10⟩)
    (c10 : PySem.W.codeIn K (.ref cl10) "_law_asked" = true)
    (k10 : PySem.W.keepIn K (.ref f10) = true)
    (a11 : PySem.W.nsIn K mainGlobals "_law_right" = some (some (.ref f11)))
    (l11 : K.lookup f11 = some ⟨oc11, od11, .func (PySem.W.fnOf "_law_right" "_law_right" (defArgs s__law_right) (defBody s__law_right) (defScope s__law_right) .none kV11 dc11 pm11 an11 cd11 ct11), sl11⟩)
    (c11 : PySem.W.codeIn K cd11 "_law_right" = true)
    (k11 : PySem.W.keepIn K (.ref f11) = true)
    (a12 : PySem.W.nsIn K mainGlobals "law" = some (some (.ref f12)))
    (l12 : K.lookup f12 = some ⟨oc12, od12, .func (PySem.W.fnOf "law" "law" (defArgs s_law) (defBody s_law) (defScope s_law) .none kV12 dc12 pm12 an12 cd12 ct12), sl12⟩)
    (c12 : PySem.W.codeIn K cd12 "law" = true)
    (k12 : PySem.W.keepIn K (.ref f12) = true)
    (a13 : PySem.W.nsIn K mainGlobals "crew_of" = some (some (.ref f13)))
    (l13 : K.lookup f13 = some ⟨oc13, od13, .func (PySem.W.fnOf "crew_of" "crew_of" (defArgs s_crew_of) (defBody s_crew_of) (defScope s_crew_of) .none kV13 dc13 pm13 an13 cd13 ct13), sl13⟩)
    (c13 : PySem.W.codeIn K cd13 "crew_of" = true)
    (k13 : PySem.W.keepIn K (.ref f13) = true)
    (a14 : PySem.W.nsIn K mainGlobals "members_of" = some (some (.ref f14)))
    (l14 : K.lookup f14 = some ⟨oc14, od14, .func (PySem.W.fnOf "members_of" "members_of" (defArgs s_members_of) (defBody s_members_of) (defScope s_members_of) .none kV14 dc14 pm14 an14 cd14 ct14), sl14⟩)
    (c14 : PySem.W.codeIn K cd14 "members_of" = true)
    (k14 : PySem.W.keepIn K (.ref f14) = true)
    (a15 : PySem.W.nsIn K mainGlobals "ticks_of" = some (some (.ref f15)))
    (l15 : K.lookup f15 = some ⟨oc15, od15, .func (PySem.W.fnOf "ticks_of" "ticks_of" (defArgs s_ticks_of) (defBody s_ticks_of) (defScope s_ticks_of) .none kV15 dc15 pm15 an15 cd15 ct15), sl15⟩)
    (c15 : PySem.W.codeIn K cd15 "ticks_of" = true)
    (k15 : PySem.W.keepIn K (.ref f15) = true)
    (a16 : PySem.W.nsIn K mainGlobals "sizes_of_crews" = some (some (.ref f16)))
    (l16 : K.lookup f16 = some ⟨oc16, od16, .func (PySem.W.fnOf "sizes_of_crews" "sizes_of_crews" (defArgs s_sizes_of_crews) (defBody s_sizes_of_crews) (defScope s_sizes_of_crews) .none kV16 dc16 pm16 an16 cd16 ct16), sl16⟩)
    (c16 : PySem.W.codeIn K cd16 "sizes_of_crews" = true)
    (k16 : PySem.W.keepIn K (.ref f16) = true)
    (a17 : PySem.W.nsIn K mainGlobals "parts_of_crews" = some (some (.ref f17)))
    (l17 : K.lookup f17 = some ⟨oc17, od17, .func (PySem.W.fnOf "parts_of_crews" "parts_of_crews" (defArgs s_parts_of_crews) (defBody s_parts_of_crews) (defScope s_parts_of_crews) .none kV17 dc17 pm17 an17 cd17 ct17), sl17⟩)
    (c17 : PySem.W.codeIn K cd17 "parts_of_crews" = true)
    (k17 : PySem.W.keepIn K (.ref f17) = true)
    (a18 : PySem.W.nsIn K mainGlobals "is_number" = some (some (.ref f18)))
    (l18 : K.lookup f18 = some ⟨oc18, od18, .func (PySem.W.fnOf "is_number" "is_number" (defArgs s_is_number) (defBody s_is_number) (defScope s_is_number) .none kV18 dc18 pm18 an18 cd18 ct18), sl18⟩)
    (c18 : PySem.W.codeIn K cd18 "is_number" = true)
    (k18 : PySem.W.keepIn K (.ref f18) = true)
    (a19 : PySem.W.nsIn K mainGlobals "is_number_from" = some (some (.ref f19)))
    (l19 : K.lookup f19 = some ⟨oc19, od19, .func (PySem.W.fnOf "is_number_from" "is_number_from" (defArgs s_is_number_from) (defBody s_is_number_from) (defScope s_is_number_from) .none kV19 dc19 pm19 an19 cd19 ct19), sl19⟩)
    (c19 : PySem.W.codeIn K cd19 "is_number_from" = true)
    (k19 : PySem.W.keepIn K (.ref f19) = true)
    (a20 : PySem.W.nsIn K mainGlobals "is_name" = some (some (.ref f20)))
    (l20 : K.lookup f20 = some ⟨oc20, od20, .func (PySem.W.fnOf "is_name" "is_name" (defArgs s_is_name) (defBody s_is_name) (defScope s_is_name) .none kV20 dc20 pm20 an20 cd20 ct20), sl20⟩)
    (c20 : PySem.W.codeIn K cd20 "is_name" = true)
    (k20 : PySem.W.keepIn K (.ref f20) = true)
    (a21 : PySem.W.nsIn K mainGlobals "is_share" = some (some (.ref f21)))
    (l21 : K.lookup f21 = some ⟨oc21, od21, .func (PySem.W.fnOf "is_share" "is_share" (defArgs s_is_share) (defBody s_is_share) (defScope s_is_share) .none kV21 dc21 pm21 an21 cd21 ct21), sl21⟩)
    (c21 : PySem.W.codeIn K cd21 "is_share" = true)
    (k21 : PySem.W.keepIn K (.ref f21) = true)
    (a22 : PySem.W.nsIn K mainGlobals "check_lot" = some (some (.ref f22)))
    (l22 : K.lookup f22 = some ⟨oc22, od22, .func (PySem.W.fnOf "check_lot" "check_lot" (defArgs s_check_lot) (defBody s_check_lot) (defScope s_check_lot) .none kV22 dc22 pm22 an22 cd22 ct22), sl22⟩)
    (c22 : PySem.W.codeIn K cd22 "check_lot" = true)
    (k22 : PySem.W.keepIn K (.ref f22) = true)
    (a23 : PySem.W.nsIn K mainGlobals "_read_hands" = some (some (.ref f23)))
    (l23 : K.lookup f23 = some ⟨oc23, od23, .func (PySem.W.fnOf "_read_hands" "_read_hands" (defArgs s__read_hands) (defBody s__read_hands) (defScope s__read_hands) .none kV23 dc23 pm23 an23 cd23 ct23), sl23⟩)
    (c23 : PySem.W.codeIn K cd23 "_read_hands" = true)
    (k23 : PySem.W.keepIn K (.ref f23) = true)
    (a24 : PySem.W.nsIn K mainGlobals "_read_works" = some (some (.ref f24)))
    (l24 : K.lookup f24 = some ⟨oc24, od24, .func (PySem.W.fnOf "_read_works" "_read_works" (defArgs s__read_works) (defBody s__read_works) (defScope s__read_works) .none kV24 dc24 pm24 an24 cd24 ct24), sl24⟩)
    (c24 : PySem.W.codeIn K cd24 "_read_works" = true)
    (k24 : PySem.W.keepIn K (.ref f24) = true)
    (a25 : PySem.W.nsIn K mainGlobals "_read_work" = some (some (.ref f25)))
    (l25 : K.lookup f25 = some ⟨oc25, od25, .func (PySem.W.fnOf "_read_work" "_read_work" (defArgs s__read_work) (defBody s__read_work) (defScope s__read_work) .none kV25 dc25 pm25 an25 cd25 ct25), sl25⟩)
    (c25 : PySem.W.codeIn K cd25 "_read_work" = true)
    (k25 : PySem.W.keepIn K (.ref f25) = true)
    (a26 : PySem.W.nsIn K mainGlobals "_read_number" = some (some (.ref f26)))
    (l26 : K.lookup f26 = some ⟨oc26, od26, .func (PySem.W.fnOf "_read_number" "_read_number" (defArgs s__read_number) (defBody s__read_number) (defScope s__read_number) .none kV26 dc26 pm26 an26 cd26 ct26), sl26⟩)
    (c26 : PySem.W.codeIn K cd26 "_read_number" = true)
    (k26 : PySem.W.keepIn K (.ref f26) = true)
    (a27 : PySem.W.nsIn K mainGlobals "_span_of" = some (some (.ref f27)))
    (l27 : K.lookup f27 = some ⟨oc27, od27, .func (PySem.W.fnOf "_span_of" "_span_of" (defArgs s__span_of) (defBody s__span_of) (defScope s__span_of) .none kV27 dc27 pm27 an27 cd27 ct27), sl27⟩)
    (c27 : PySem.W.codeIn K cd27 "_span_of" = true)
    (k27 : PySem.W.keepIn K (.ref f27) = true)
    (a28 : PySem.W.nsIn K mainGlobals "_total_of" = some (some (.ref f28)))
    (l28 : K.lookup f28 = some ⟨oc28, od28, .func (PySem.W.fnOf "_total_of" "_total_of" (defArgs s__total_of) (defBody s__total_of) (defScope s__total_of) .none kV28 dc28 pm28 an28 cd28 ct28), sl28⟩)
    (c28 : PySem.W.codeIn K cd28 "_total_of" = true)
    (k28 : PySem.W.keepIn K (.ref f28) = true)
    (a29 : PySem.W.nsIn K mainGlobals "turns_of" = some (some (.ref f29)))
    (l29 : K.lookup f29 = some ⟨oc29, od29, .func (PySem.W.fnOf "turns_of" "turns_of" (defArgs s_turns_of) (defBody s_turns_of) (defScope s_turns_of) .none kV29 dc29 pm29 an29 cd29 ct29), sl29⟩)
    (c29 : PySem.W.codeIn K cd29 "turns_of" = true)
    (k29 : PySem.W.keepIn K (.ref f29) = true)
    (a30 : PySem.W.nsIn K mainGlobals "_quotient_up" = some (some (.ref f30)))
    (l30 : K.lookup f30 = some ⟨oc30, od30, .func (PySem.W.fnOf "_quotient_up" "_quotient_up" (defArgs s__quotient_up) (defBody s__quotient_up) (defScope s__quotient_up) .none kV30 dc30 pm30 an30 cd30 ct30), sl30⟩)
    (c30 : PySem.W.codeIn K cd30 "_quotient_up" = true)
    (k30 : PySem.W.keepIn K (.ref f30) = true)
    (a31 : PySem.W.nsIn K mainGlobals "_grown_between" = some (some (.ref f31)))
    (l31 : K.lookup f31 = some ⟨oc31, od31, .func (PySem.W.fnOf "_grown_between" "_grown_between" (defArgs s__grown_between) (defBody s__grown_between) (defScope s__grown_between) .none kV31 dc31 pm31 an31 cd31 ct31), sl31⟩)
    (c31 : PySem.W.codeIn K cd31 "_grown_between" = true)
    (k31 : PySem.W.keepIn K (.ref f31) = true)
    (a32 : PySem.W.nsIn K mainGlobals "_living_of" = some (some (.ref f32)))
    (l32 : K.lookup f32 = some ⟨oc32, od32, .func (PySem.W.fnOf "_living_of" "_living_of" (defArgs s__living_of) (defBody s__living_of) (defScope s__living_of) .none kV32 dc32 pm32 an32 cd32 ct32), sl32⟩)
    (c32 : PySem.W.codeIn K cd32 "_living_of" = true)
    (k32 : PySem.W.keepIn K (.ref f32) = true)
    (a33 : PySem.W.nsIn K mainGlobals "_standings_before" = some (some (.ref f33)))
    (l33 : K.lookup f33 = some ⟨oc33, od33, .func (PySem.W.fnOf "_standings_before" "_standings_before" (defArgs s__standings_before) (defBody s__standings_before) (defScope s__standings_before) .none kV33 dc33 pm33 an33 cd33 ct33), sl33⟩)
    (c33 : PySem.W.codeIn K cd33 "_standings_before" = true)
    (k33 : PySem.W.keepIn K (.ref f33) = true)
    (a34 : PySem.W.nsIn K mainGlobals "any_way" = some (some (.ref f34)))
    (l34 : K.lookup f34 = some ⟨oc34, od34, .func (PySem.W.fnOf "any_way" "any_way" (defArgs s_any_way) (defBody s_any_way) (defScope s_any_way) .none kV34 dc34 pm34 an34 cd34 ct34), sl34⟩)
    (c34 : PySem.W.codeIn K cd34 "any_way" = true)
    (k34 : PySem.W.keepIn K (.ref f34) = true)
    (a35 : PySem.W.nsIn K mainGlobals "plan" = some (some (.ref f35)))
    (l35 : K.lookup f35 = some ⟨oc35, od35, .func (PySem.W.fnOf "plan" "plan" (defArgs s_plan) (defBody s_plan) (defScope s_plan) .none kV35 dc35 pm35 an35 cd35 ct35), sl35⟩)
    (c35 : PySem.W.codeIn K cd35 "plan" = true)
    (k35 : PySem.W.keepIn K (.ref f35) = true)
    (a36 : PySem.W.nsIn K mainGlobals "longest" = some (some (.ref f36)))
    (l36 : K.lookup f36 = some ⟨oc36, od36, .func (PySem.W.fnOf "longest" "longest" (defArgs s_longest) (defBody s_longest) (defScope s_longest) .none kV36 dc36 pm36 an36 cd36 ct36), sl36⟩)
    (c36 : PySem.W.codeIn K cd36 "longest" = true)
    (k36 : PySem.W.keepIn K (.ref f36) = true)
    (a37 : PySem.W.nsIn K mainGlobals "least_more" = some (some (.ref f37)))
    (l37 : K.lookup f37 = some ⟨oc37, od37, .func (PySem.W.fnOf "least_more" "least_more" (defArgs s_least_more) (defBody s_least_more) (defScope s_least_more) .none kV37 dc37 pm37 an37 cd37 ct37), sl37⟩)
    (c37 : PySem.W.codeIn K cd37 "least_more" = true)
    (k37 : PySem.W.keepIn K (.ref f37) = true)
    (a38 : PySem.W.nsIn K mainGlobals "layers_of" = some (some (.ref f38)))
    (l38 : K.lookup f38 = some ⟨oc38, od38, .func (PySem.W.fnOf "layers_of" "layers_of" (defArgs s_layers_of) (defBody s_layers_of) (defScope s_layers_of) .none kV38 dc38 pm38 an38 cd38 ct38), sl38⟩)
    (c38 : PySem.W.codeIn K cd38 "layers_of" = true)
    (k38 : PySem.W.keepIn K (.ref f38) = true)
    (a39 : PySem.W.nsIn K mainGlobals "check_counts" = some (some (.ref f39)))
    (l39 : K.lookup f39 = some ⟨oc39, od39, .func (PySem.W.fnOf "check_counts" "check_counts" (defArgs s_check_counts) (defBody s_check_counts) (defScope s_check_counts) .none kV39 dc39 pm39 an39 cd39 ct39), sl39⟩)
    (c39 : PySem.W.codeIn K cd39 "check_counts" = true)
    (k39 : PySem.W.keepIn K (.ref f39) = true)
    (a40 : PySem.W.nsIn K mainGlobals "_standings_in" = some (some (.ref f40)))
    (l40 : K.lookup f40 = some ⟨oc40, od40, .func (PySem.W.fnOf "_standings_in" "_standings_in" (defArgs s__standings_in) (defBody s__standings_in) (defScope s__standings_in) .none kV40 dc40 pm40 an40 cd40 ct40), sl40⟩)
    (c40 : PySem.W.codeIn K cd40 "_standings_in" = true)
    (k40 : PySem.W.keepIn K (.ref f40) = true)
    (aC : PySem.W.nsIn K mainGlobals "Lot" = some (some (.ref C)))
    (aI : PySem.W.findIn K (.ref C) "__init__" = some (some (.ref fI)))
    (lI : K.lookup fI = some ⟨ocI, odI, .func (PySem.W.fnOf "__init__" "Lot.__init__" (defArgs s_Lot___init__) (defBody s_Lot___init__) (defScope s_Lot___init__) .none kVI dcI pmI anI cdI ctI), slI⟩)
    (cI : PySem.W.codeIn K cdI "Lot.__init__" = true)
    (kI : PySem.W.keepIn K (.ref fI) = true)
    (iI : PySem.W.isFn K (.ref fI) = true)
    (pg : PySem.W.plainGet K C Str.empty = true)
    (hd : PySem.W.hasDictIn K C = true)
    (po : PySem.W.plainOver K C = true)
    (sa : PySem.W.findIn K (.ref C) "__setattr__" = some (some (.builtin "object.__setattr__")))
    (mk : PySem.W.makesIn K C = true)
    (kc : PySem.W.keepIn K (.ref C) = true)
    (ca : PySem.W.findIn K (.ref C) "__class__" = some (some (.builtin "object.__class__")))
    (cb : PySem.W.specialIn K (.builtin "object.__class__") "__get__" = some (some (.builtin "getset_descriptor.__get__")))
    (cc : PySem.W.takesIn K (.builtin "object.__class__") = some true)
    (cm : PySem.W.mroIn K C (.type "object") = some true)
    (n0 : PySem.W.findIn K (.ref C) "_text" = some none)
    (n1 : PySem.W.findIn K (.ref C) "_hands" = some none)
    (n2 : PySem.W.findIn K (.ref C) "_names" = some none)
    (n3 : PySem.W.findIn K (.ref C) "_shares" = some none)
    (n4 : PySem.W.findIn K (.ref C) "_span" = some none)
    (n5 : PySem.W.findIn K (.ref C) "_total" = some none)
    (atPshares : PySem.W.findIn K (.ref C) "shares" = some (some (.ref pPshares)))
    (rePshares_ : PySem.W.recIn K pPshares "property" = some (.ref fPshares :: rePshares))
    (gePshares : PySem.W.specialIn K (.ref pPshares) "__get__" = some (some (.builtin "property.__get__")))
    (taPshares : PySem.W.takesIn K (.ref pPshares) = some true)
    (lPshares : K.lookup fPshares = some ⟨ocPshares, odPshares, .func (PySem.W.fnOf "shares" "Lot.shares" (defArgs s_Lot_shares) (defBody s_Lot_shares) (defScope s_Lot_shares) .none kVPshares dcPshares pmPshares anPshares cdPshares ctPshares), slPshares⟩)
    (cPshares : PySem.W.codeIn K cdPshares "Lot.shares" = true)
    (kPshares : PySem.W.keepIn K (.ref fPshares) = true)
    (aCW : PySem.W.nsIn K mainGlobals "Walk" = some (some (.ref CW)))
    (aWI : PySem.W.findIn K (.ref CW) "__init__" = some (some (.ref fWI)))
    (lWI : K.lookup fWI = some ⟨ocWI, odWI, .func (PySem.W.fnOf "__init__" "Walk.__init__" (defArgs s_Walk___init__) (defBody s_Walk___init__) (defScope s_Walk___init__) .none kVWI dcWI pmWI anWI cdWI ctWI), slWI⟩)
    (cWI : PySem.W.codeIn K cdWI "Walk.__init__" = true)
    (kWI : PySem.W.keepIn K (.ref fWI) = true)
    (iWI : PySem.W.isFn K (.ref fWI) = true)
    (pgW : PySem.W.plainGet K CW Str.empty = true)
    (hdW : PySem.W.hasDictIn K CW = true)
    (poW : PySem.W.plainOver K CW = true)
    (saW : PySem.W.findIn K (.ref CW) "__setattr__" = some (some (.builtin "object.__setattr__")))
    (mkW : PySem.W.makesIn K CW = true)
    (kcW : PySem.W.keepIn K (.ref CW) = true)
    (nW0 : PySem.W.findIn K (.ref CW) "ticks" = some none)
    (nW1 : PySem.W.findIn K (.ref CW) "most" = some none)
    (nW2 : PySem.W.findIn K (.ref CW) "sizes" = some none)
    (nW3 : PySem.W.findIn K (.ref CW) "parts" = some none)
    (nW4 : PySem.W.findIn K (.ref CW) "lows" = some none)
    (nW5 : PySem.W.findIn K (.ref CW) "doubles" = some none)
    (nW6 : PySem.W.findIn K (.ref CW) "grown" = some none)
    (nW7 : PySem.W.findIn K (.ref CW) "living" = some none)
    (aWis_alive : PySem.W.findIn K (.ref CW) "is_alive" = some (some (.ref fWis_alive)))
    (lWis_alive : K.lookup fWis_alive = some ⟨ocWis_alive, odWis_alive, .func (PySem.W.fnOf "is_alive" "Walk.is_alive" (defArgs s_Walk_is_alive) (defBody s_Walk_is_alive) (defScope s_Walk_is_alive) .none kVWis_alive dcWis_alive pmWis_alive anWis_alive cdWis_alive ctWis_alive), slWis_alive⟩)
    (cWis_alive : PySem.W.codeIn K cdWis_alive "Walk.is_alive" = true)
    (kWis_alive : PySem.W.keepIn K (.ref fWis_alive) = true)
    (iWis_alive : PySem.W.isFn K (.ref fWis_alive) = true)
    (aWcrews : PySem.W.findIn K (.ref CW) "crews" = some (some (.ref fWcrews)))
    (lWcrews : K.lookup fWcrews = some ⟨ocWcrews, odWcrews, .func (PySem.W.fnOf "crews" "Walk.crews" (defArgs s_Walk_crews) (defBody s_Walk_crews) (defScope s_Walk_crews) .none kVWcrews dcWcrews pmWcrews anWcrews cdWcrews ctWcrews), slWcrews⟩)
    (cWcrews : PySem.W.codeIn K cdWcrews "Walk.crews" = true)
    (kWcrews : PySem.W.keepIn K (.ref fWcrews) = true)
    (iWcrews : PySem.W.isFn K (.ref fWcrews) = true)
    (aWchoices : PySem.W.findIn K (.ref CW) "choices" = some (some (.ref fWchoices)))
    (lWchoices : K.lookup fWchoices = some ⟨ocWchoices, odWchoices, .func (PySem.W.fnOf "choices" "Walk.choices" (defArgs s_Walk_choices) (defBody s_Walk_choices) (defScope s_Walk_choices) .none kVWchoices dcWchoices pmWchoices anWchoices cdWchoices ctWchoices), slWchoices⟩)
    (cWchoices : PySem.W.codeIn K cdWchoices "Walk.choices" = true)
    (kWchoices : PySem.W.keepIn K (.ref fWchoices) = true)
    (iWchoices : PySem.W.isFn K (.ref fWchoices) = true)
    (aWahead_behind : PySem.W.findIn K (.ref CW) "ahead_behind" = some (some (.ref fWahead_behind)))
    (lWahead_behind : K.lookup fWahead_behind = some ⟨ocWahead_behind, odWahead_behind, .func (PySem.W.fnOf "ahead_behind" "Walk.ahead_behind" (defArgs s_Walk_ahead_behind) (defBody s_Walk_ahead_behind) (defScope s_Walk_ahead_behind) .none kVWahead_behind dcWahead_behind pmWahead_behind anWahead_behind cdWahead_behind ctWahead_behind), slWahead_behind⟩)
    (cWahead_behind : PySem.W.codeIn K cdWahead_behind "Walk.ahead_behind" = true)
    (kWahead_behind : PySem.W.keepIn K (.ref fWahead_behind) = true)
    (iWahead_behind : PySem.W.isFn K (.ref fWahead_behind) = true)
    (aWnumbers_of : PySem.W.findIn K (.ref CW) "numbers_of" = some (some (.ref fWnumbers_of)))
    (lWnumbers_of : K.lookup fWnumbers_of = some ⟨ocWnumbers_of, odWnumbers_of, .func (PySem.W.fnOf "numbers_of" "Walk.numbers_of" (defArgs s_Walk_numbers_of) (defBody s_Walk_numbers_of) (defScope s_Walk_numbers_of) .none kVWnumbers_of dcWnumbers_of pmWnumbers_of anWnumbers_of cdWnumbers_of ctWnumbers_of), slWnumbers_of⟩)
    (cWnumbers_of : PySem.W.codeIn K cdWnumbers_of "Walk.numbers_of" = true)
    (kWnumbers_of : PySem.W.keepIn K (.ref fWnumbers_of) = true)
    (iWnumbers_of : PySem.W.isFn K (.ref fWnumbers_of) = true)
    (no0 : PySem.W.kitOne K (.type "dict") (.ref C) = some false)
    (no1 : PySem.W.kitOne K (.type "NoneType") (.ref C) = some false)
    (no2 : PySem.W.kitOne K (.type "bool") (.ref C) = some false)
    (no3 : PySem.W.kitOne K (.type "int") (.ref C) = some false)
    (no4 : PySem.W.kitOne K (.type "str") (.ref C) = some false)
    (no5 : PySem.W.kitOne K (.type "list") (.ref C) = some false)
    (no6 : PySem.W.kitOne K (.type "tuple") (.ref C) = some false)
    (en0 : PySem.W.nsIn K mainGlobals "NotALot" = some (some (.ref e0)))
    (en1 : PySem.W.nsIn K mainGlobals "UnknownName" = some (some (.ref e1)))
    (en2 : PySem.W.nsIn K mainGlobals "InvalidNumber" = some (some (.ref e2)))
    (en3 : PySem.W.nsIn K mainGlobals "InvalidRule" = some (some (.ref e3)))
    (en4 : PySem.W.nsIn K mainGlobals "InvalidStanding" = some (some (.ref e4)))
    (en5 : PySem.W.nsIn K mainGlobals "InvalidTable" = some (some (.ref e5)))
    (en6 : PySem.W.nsIn K mainGlobals "InvalidLates" = some (some (.ref e6)))
    (en7 : PySem.W.nsIn K mainGlobals "InvalidCounts" = some (some (.ref e7)))
    (en8 : PySem.W.nsIn K mainGlobals "TooMany" = some (some (.ref e8)))
    (ev0 : PySem.W.nsIn K mainGlobals "WrongValue" = some (some (.ref v0)))
    (ev1 : PySem.W.nsIn K mainGlobals "WrongName" = some (some (.ref v1)))
    (ev2 : PySem.W.nsIn K mainGlobals "NoAnswer" = some (some (.ref v2)))
    (xcb : PySem.W.specialIn K (.builtin "object.__class__") "__get__" = some (some (.builtin "getset_descriptor.__get__")))
    (xcc : PySem.W.takesIn K (.builtin "object.__class__") = some true)
    (xei0 : PySem.W.excInitIn K e0 [.type "ValueError", .type "Exception", .type "BaseException", .type "object"] "ValueError.__new__" = true)
    (xeo0 : PySem.W.excOver K e0 [.type "ValueError", .type "Exception", .type "BaseException", .type "object"] = true)
    (xsa0 : PySem.W.findIn K (.ref e0) "__setattr__" = some (some (.builtin "object.__setattr__")))
    (xga0 : PySem.W.findIn K (.ref e0) "__getattribute__" = some (some (.builtin "BaseException.__getattribute__")))
    (xgg0 : PySem.W.findIn K (.ref e0) "__getattr__" = some none)
    (xca0 : PySem.W.findIn K (.ref e0) "__class__" = some (some (.builtin "object.__class__")))
    (xno0 : PySem.W.findIn K (.ref e0) "given" = some none)
    (xsb0 : PySem.W.subIn K (.ref e0) (.type "BaseException") = some true)
    (xty0 : PySem.W.typeIn K (.ref e0) = some (.type "type"))
    (xkc0 : PySem.W.keepIn K (.ref e0) = true)
    (xic0 : PySem.W.isClsIn K e0 = true)
    (xcm0 : PySem.W.mroIn K e0 (.type "object") = some true)
    (xhd0 : PySem.W.hasDictIn K e0 = true)
    (aX0 : PySem.W.findIn K (.ref e0) "__init__" = some (some (.ref fX0)))
    (lX0 : K.lookup fX0 = some ⟨ocX0, odX0, .func (PySem.W.fnOf "__init__" "NotALot.__init__" (defArgs s_NotALot___init__) (defBody s_NotALot___init__) (defScope s_NotALot___init__) .none kVX0 dcX0 pmX0 anX0 cdX0 ctX0), slX0⟩)
    (cX0 : PySem.W.codeIn K cdX0 "NotALot.__init__" = true)
    (kX0 : PySem.W.keepIn K (.ref fX0) = true)
    (xti0 : PySem.W.typeIn K (.ref fX0) = some (.type "function"))
    (xk0_0 : PySem.W.kitOne K (.ref e0) (.ref e0) = some true)
    (xk0_1 : PySem.W.kitOne K (.ref e0) (.ref e1) = some false)
    (xk0_2 : PySem.W.kitOne K (.ref e0) (.ref e2) = some false)
    (xk0_3 : PySem.W.kitOne K (.ref e0) (.ref e3) = some false)
    (xk0_4 : PySem.W.kitOne K (.ref e0) (.ref e4) = some false)
    (xk0_5 : PySem.W.kitOne K (.ref e0) (.ref e5) = some false)
    (xk0_6 : PySem.W.kitOne K (.ref e0) (.ref e6) = some false)
    (xk0_7 : PySem.W.kitOne K (.ref e0) (.ref e7) = some false)
    (xk0_8 : PySem.W.kitOne K (.ref e0) (.ref e8) = some false)
    (xan0 : PySem.W.exmAny K (.ref e0) [.ref v0, .ref v1, .ref v2] = some true)
    (xei7 : PySem.W.excInitIn K e7 [.type "ValueError", .type "Exception", .type "BaseException", .type "object"] "ValueError.__new__" = true)
    (xeo7 : PySem.W.excOver K e7 [.type "ValueError", .type "Exception", .type "BaseException", .type "object"] = true)
    (xsa7 : PySem.W.findIn K (.ref e7) "__setattr__" = some (some (.builtin "object.__setattr__")))
    (xga7 : PySem.W.findIn K (.ref e7) "__getattribute__" = some (some (.builtin "BaseException.__getattribute__")))
    (xgg7 : PySem.W.findIn K (.ref e7) "__getattr__" = some none)
    (xca7 : PySem.W.findIn K (.ref e7) "__class__" = some (some (.builtin "object.__class__")))
    (xno7 : PySem.W.findIn K (.ref e7) "index" = some none)
    (xsb7 : PySem.W.subIn K (.ref e7) (.type "BaseException") = some true)
    (xty7 : PySem.W.typeIn K (.ref e7) = some (.type "type"))
    (xkc7 : PySem.W.keepIn K (.ref e7) = true)
    (xic7 : PySem.W.isClsIn K e7 = true)
    (xcm7 : PySem.W.mroIn K e7 (.type "object") = some true)
    (xhd7 : PySem.W.hasDictIn K e7 = true)
    (aX7 : PySem.W.findIn K (.ref e7) "__init__" = some (some (.ref fX7)))
    (lX7 : K.lookup fX7 = some ⟨ocX7, odX7, .func (PySem.W.fnOf "__init__" "InvalidCounts.__init__" (defArgs s_InvalidCounts___init__) (defBody s_InvalidCounts___init__) (defScope s_InvalidCounts___init__) .none kVX7 dcX7 pmX7 anX7 cdX7 ctX7), slX7⟩)
    (cX7 : PySem.W.codeIn K cdX7 "InvalidCounts.__init__" = true)
    (kX7 : PySem.W.keepIn K (.ref fX7) = true)
    (xti7 : PySem.W.typeIn K (.ref fX7) = some (.type "function"))
    (xk7_0 : PySem.W.kitOne K (.ref e7) (.ref e0) = some false)
    (xk7_1 : PySem.W.kitOne K (.ref e7) (.ref e1) = some false)
    (xk7_2 : PySem.W.kitOne K (.ref e7) (.ref e2) = some false)
    (xk7_3 : PySem.W.kitOne K (.ref e7) (.ref e3) = some false)
    (xk7_4 : PySem.W.kitOne K (.ref e7) (.ref e4) = some false)
    (xk7_5 : PySem.W.kitOne K (.ref e7) (.ref e5) = some false)
    (xk7_6 : PySem.W.kitOne K (.ref e7) (.ref e6) = some false)
    (xk7_7 : PySem.W.kitOne K (.ref e7) (.ref e7) = some true)
    (xk7_8 : PySem.W.kitOne K (.ref e7) (.ref e8) = some false)
    (xan7 : PySem.W.exmAny K (.ref e7) [.ref v0, .ref v1, .ref v2] = some true)
    (o0 : PySem.W.nsIn K mainGlobals "MOST_WORKS" = some (some (.int 6 t0)))
    (o1 : PySem.W.nsIn K mainGlobals "MOST_HANDS" = some (some (.int 6 t1)))
    (o2 : PySem.W.nsIn K mainGlobals "MOST_PERIOD" = some (some (.int 16 t2)))
    (o3 : PySem.W.nsIn K mainGlobals "LONGEST_NAME" = some (some (.int 8 t3)))
    (o4 : PySem.W.nsIn K mainGlobals "LETTERS" = some (some (.str (Str.ofString "abcdefghijklmnopqrstuvwxyz") t4)))
    (oMOST_COUNTS : PySem.W.nsIn K mainGlobals "MOST_COUNTS" = some (some (.int 60 tMOST_COUNTS)))
    (zlen : PySem.W.nsIn K mainGlobals "len" = some none)
    (zrange : PySem.W.nsIn K mainGlobals "range" = some none)
    (zabs : PySem.W.nsIn K mainGlobals "abs" = some none)
    (zdivmod : PySem.W.nsIn K mainGlobals "divmod" = some none)
    (zint : PySem.W.nsIn K mainGlobals "int" = some none)
    (zstr : PySem.W.nsIn K mainGlobals "str" = some none)
    (zbool : PySem.W.nsIn K mainGlobals "bool" = some none)
    (zrepr : PySem.W.nsIn K mainGlobals "repr" = some none)
    (zisinstance : PySem.W.nsIn K mainGlobals "isinstance" = some none)
    (ztuple : PySem.W.nsIn K mainGlobals "tuple" = some none)
    (zlist : PySem.W.nsIn K mainGlobals "list" = some none)
    (zdict : PySem.W.nsIn K mainGlobals "dict" = some none)
    (zzip : PySem.W.nsIn K mainGlobals "zip" = some none)
    (zsum : PySem.W.nsIn K mainGlobals "sum" = some none)
    (zall : PySem.W.nsIn K mainGlobals "all" = some none)
    (zmax : PySem.W.nsIn K mainGlobals "max" = some none)
    (zmin : PySem.W.nsIn K mainGlobals "min" = some none)
    (zsorted : PySem.W.nsIn K mainGlobals "sorted" = some none)
    (zset : PySem.W.nsIn K mainGlobals "set" = some none)
    (zenumerate : PySem.W.nsIn K mainGlobals "enumerate" = some none)
    (g_gcd : PySem.W.nsIn K mainGlobals "gcd" = some (some (.builtin "math.gcd")))
    (g_lcm : PySem.W.nsIn K mainGlobals "lcm" = some (some (.builtin "math.lcm")))
    : ∃ (fd : FuncData), (∀ p ∈ (lamT pl10 "_law_asked" : List (Addr × Str)), ∃ c, (c, p.1) ∈ ([(cl10, pl10)] : List (Addr × Addr))) ∧ (∀ (s : Shared) (u : Value), BindsTo s fd ⟨[u], []⟩ [("_law_cells", u)]) ∧ ∀ base : Heap, (∀ p ∈ ([(cl10, pl10)] : List (Addr × Addr)), TabB base mg p.1 p.2) → FnG l.prog w K mg base 13 fa fd ["_law_cells"] (spLawT K (lamT pl10 "_law_asked")) := by
  have D__law_cell : DefAt K mg "_law_cell" s__law_cell := ⟨_, _, fun_mk l0 c0 k0, PySem.W.mg_of X G a0⟩
  have D__law_jar : DefAt K mg "_law_jar" s__law_jar := ⟨_, _, fun_mk l1 c1 k1, PySem.W.mg_of X G a1⟩
  have D__law_dig : DefAt K mg "_law_dig" s__law_dig := ⟨_, _, fun_mk l2 c2 k2, PySem.W.mg_of X G a2⟩
  have D__law_take : DefAt K mg "_law_take" s__law_take := ⟨_, _, fun_mk l3 c3 k3, PySem.W.mg_of X G a3⟩
  have D__law_lot : DefAt K mg "_law_lot" s__law_lot := ⟨_, _, fun_mk l4 c4 k4, PySem.W.mg_of X G a4⟩
  have D__law_fitting : DefAt K mg "_law_fitting" s__law_fitting := ⟨_, _, fun_mk l5 c5 k5, PySem.W.mg_of X G a5⟩
  have D__law_text : DefAt K mg "_law_text" s__law_text := ⟨_, _, fun_mk l6 c6 k6, PySem.W.mg_of X G a6⟩
  have D__law_sort : DefAt K mg "_law_sort" s__law_sort := ⟨_, _, fun_mk l7 c7 k7, PySem.W.mg_of X G a7⟩
  have D__law_caught : DefAt K mg "_law_caught" s__law_caught := ⟨_, _, fun_mk l8 c8 k8, PySem.W.mg_of X G a8⟩
  have D__law_odd : DefAt K mg "_law_odd" s__law_odd := ⟨_, _, fun_mk l9 c9 k9, PySem.W.mg_of X G a9⟩
  have D__law_asked : DefAtC K mg "_law_asked" s__law_asked cl10 := ⟨_, _, fun_mk l10 c10 k10, PySem.W.mg_of X G a10, rfl⟩
  have D__law_right : DefAt K mg "_law_right" s__law_right := ⟨_, _, fun_mk l11 c11 k11, PySem.W.mg_of X G a11⟩
  have D_law : DefAt K mg "law" s_law := ⟨_, _, fun_mk l12 c12 k12, PySem.W.mg_of X G a12⟩
  have D_crew_of : DefAt K mg "crew_of" s_crew_of := ⟨_, _, fun_mk l13 c13 k13, PySem.W.mg_of X G a13⟩
  have D_members_of : DefAt K mg "members_of" s_members_of := ⟨_, _, fun_mk l14 c14 k14, PySem.W.mg_of X G a14⟩
  have D_ticks_of : DefAt K mg "ticks_of" s_ticks_of := ⟨_, _, fun_mk l15 c15 k15, PySem.W.mg_of X G a15⟩
  have D_sizes_of_crews : DefAt K mg "sizes_of_crews" s_sizes_of_crews := ⟨_, _, fun_mk l16 c16 k16, PySem.W.mg_of X G a16⟩
  have D_parts_of_crews : DefAt K mg "parts_of_crews" s_parts_of_crews := ⟨_, _, fun_mk l17 c17 k17, PySem.W.mg_of X G a17⟩
  have D_is_number : DefAt K mg "is_number" s_is_number := ⟨_, _, fun_mk l18 c18 k18, PySem.W.mg_of X G a18⟩
  have D_is_number_from : DefAt K mg "is_number_from" s_is_number_from := ⟨_, _, fun_mk l19 c19 k19, PySem.W.mg_of X G a19⟩
  have D_is_name : DefAt K mg "is_name" s_is_name := ⟨_, _, fun_mk l20 c20 k20, PySem.W.mg_of X G a20⟩
  have D_is_share : DefAt K mg "is_share" s_is_share := ⟨_, _, fun_mk l21 c21 k21, PySem.W.mg_of X G a21⟩
  have D_check_lot : DefAt K mg "check_lot" s_check_lot := ⟨_, _, fun_mk l22 c22 k22, PySem.W.mg_of X G a22⟩
  have D__read_hands : DefAt K mg "_read_hands" s__read_hands := ⟨_, _, fun_mk l23 c23 k23, PySem.W.mg_of X G a23⟩
  have D__read_works : DefAt K mg "_read_works" s__read_works := ⟨_, _, fun_mk l24 c24 k24, PySem.W.mg_of X G a24⟩
  have D__read_work : DefAt K mg "_read_work" s__read_work := ⟨_, _, fun_mk l25 c25 k25, PySem.W.mg_of X G a25⟩
  have D__read_number : DefAt K mg "_read_number" s__read_number := ⟨_, _, fun_mk l26 c26 k26, PySem.W.mg_of X G a26⟩
  have D__span_of : DefAt K mg "_span_of" s__span_of := ⟨_, _, fun_mk l27 c27 k27, PySem.W.mg_of X G a27⟩
  have D__total_of : DefAt K mg "_total_of" s__total_of := ⟨_, _, fun_mk l28 c28 k28, PySem.W.mg_of X G a28⟩
  have D_turns_of : DefAt K mg "turns_of" s_turns_of := ⟨_, _, fun_mk l29 c29 k29, PySem.W.mg_of X G a29⟩
  have D__quotient_up : DefAt K mg "_quotient_up" s__quotient_up := ⟨_, _, fun_mk l30 c30 k30, PySem.W.mg_of X G a30⟩
  have D__grown_between : DefAt K mg "_grown_between" s__grown_between := ⟨_, _, fun_mk l31 c31 k31, PySem.W.mg_of X G a31⟩
  have D__living_of : DefAt K mg "_living_of" s__living_of := ⟨_, _, fun_mk l32 c32 k32, PySem.W.mg_of X G a32⟩
  have D__standings_before : DefAt K mg "_standings_before" s__standings_before := ⟨_, _, fun_mk l33 c33 k33, PySem.W.mg_of X G a33⟩
  have D_any_way : DefAt K mg "any_way" s_any_way := ⟨_, _, fun_mk l34 c34 k34, PySem.W.mg_of X G a34⟩
  have D_plan : DefAt K mg "plan" s_plan := ⟨_, _, fun_mk l35 c35 k35, PySem.W.mg_of X G a35⟩
  have D_longest : DefAt K mg "longest" s_longest := ⟨_, _, fun_mk l36 c36 k36, PySem.W.mg_of X G a36⟩
  have D_least_more : DefAt K mg "least_more" s_least_more := ⟨_, _, fun_mk l37 c37 k37, PySem.W.mg_of X G a37⟩
  have D_layers_of : DefAt K mg "layers_of" s_layers_of := ⟨_, _, fun_mk l38 c38 k38, PySem.W.mg_of X G a38⟩
  have D_check_counts : DefAt K mg "check_counts" s_check_counts := ⟨_, _, fun_mk l39 c39 k39, PySem.W.mg_of X G a39⟩
  have D__standings_in : DefAt K mg "_standings_in" s__standings_in := ⟨_, _, fun_mk l40 c40 k40, PySem.W.mg_of X G a40⟩
  have B0 : Blt0 mg := ⟨PySem.W.mg_none_of X G zlen, PySem.W.mg_none_of X G zrange, PySem.W.mg_none_of X G zabs, PySem.W.mg_none_of X G zdivmod, PySem.W.mg_none_of X G zint, PySem.W.mg_none_of X G zstr, PySem.W.mg_none_of X G zbool, PySem.W.mg_none_of X G zrepr, PySem.W.mg_none_of X G zisinstance, PySem.W.mg_none_of X G ztuple, PySem.W.mg_none_of X G zlist, PySem.W.mg_none_of X G zdict, PySem.W.mg_none_of X G zzip, PySem.W.mg_none_of X G zsum, PySem.W.mg_none_of X G zall, PySem.W.mg_none_of X G zmax, PySem.W.mg_none_of X G zmin, PySem.W.mg_none_of X G zsorted, PySem.W.mg_none_of X G zset, PySem.W.mg_none_of X G zenumerate⟩
  have B : Blt mg := ⟨B0, PySem.W.mg_of X G g_gcd, PySem.W.mg_of X G g_lcm⟩
  have C2 : Cst mg := ⟨⟨_, PySem.W.mg_of X G o0⟩, ⟨_, PySem.W.mg_of X G o1⟩, ⟨_, PySem.W.mg_of X G o2⟩, ⟨_, PySem.W.mg_of X G o3⟩, ⟨_, PySem.W.mg_of X G o4⟩⟩
  have T : LotC K mg C := ⟨⟨pg, hd, po, sa⟩, n0, n1, n2, n3, n4, n5, PySem.W.mg_of X G aC⟩
  have I : LotI K C := ⟨ca, cb, cc, cm⟩
  have FI := fun_mk (st := s_Lot___init__) lI cI kI
  have W : WalkC K mg CW := ⟨⟨pgW, hdW, poW, saW⟩, nW0, nW1, nW2, nW3, nW4, nW5, nW6, nW7, PySem.W.mg_of X G aCW⟩
  have FWI := fun_mk (st := s_Walk___init__) lWI cWI kWI
  have F_Wis_alive := fun_mk (st := s_Walk_is_alive) lWis_alive cWis_alive kWis_alive
  have F_Wcrews := fun_mk (st := s_Walk_crews) lWcrews cWcrews kWcrews
  have F_Wchoices := fun_mk (st := s_Walk_choices) lWchoices cWchoices kWchoices
  have F_Wahead_behind := fun_mk (st := s_Walk_ahead_behind) lWahead_behind cWahead_behind kWahead_behind
  have F_Wnumbers_of := fun_mk (st := s_Walk_numbers_of) lWnumbers_of cWnumbers_of kWnumbers_of
  have F_shares := fun_mk (st := s_Lot_shares) lPshares cPshares kPshares
  obtain ⟨f, fd, F, hm⟩ := D_law.ex
  cases hfa.symm.trans hm
  refine ⟨fd, ?_, ?_, fun base hTB => ?_⟩
  · intro p hp
    simp only [lamT, List.cons_append, List.nil_append, List.mem_cons, List.mem_nil_iff, or_false, List.not_mem_nil] at hp
    rcases hp with rfl
    · exact ⟨cl10, by simp⟩
  · obtain ⟨oc, od, kV, doc, pm, an, cdv, ct, osl, rfl, lk, hcd⟩ := F.ex
    exact fun s u => .of_eq rfl
  have TB__law_asked : TabB base mg cl10 pl10 := hTB (cl10, pl10) (by simp)
  have N : ErrN9 mg ⟨e0, e1, e2, e3, e4, e5, e6, e7, e8⟩ ⟨v0, v1, v2⟩ := ⟨PySem.W.mg_of X G en0, PySem.W.mg_of X G en1, PySem.W.mg_of X G en2, PySem.W.mg_of X G en3, PySem.W.mg_of X G en4, PySem.W.mg_of X G en5, PySem.W.mg_of X G en6, PySem.W.mg_of X G en7, PySem.W.mg_of X G en8, PySem.W.mg_of X G ev0, PySem.W.mg_of X G ev1, PySem.W.mg_of X G ev2⟩
  have XK0 : ExcK K e0 := ⟨xic0, xga0, xgg0, xsb0, xca0, xcb, xcc, xcm0, xhd0⟩
  have XS0 : IsSort K ⟨e0, e1, e2, e3, e4, e5, e6, e7, e8⟩ e0 0 := ⟨by decide, fun j a h => (match j, a, h with | 0, _, h => by cases h; exact xk0_0 | 1, _, h => by cases h; exact xk0_1 | 2, _, h => by cases h; exact xk0_2 | 3, _, h => by cases h; exact xk0_3 | 4, _, h => by cases h; exact xk0_4 | 5, _, h => by cases h; exact xk0_5 | 6, _, h => by cases h; exact xk0_6 | 7, _, h => by cases h; exact xk0_7 | 8, _, h => by cases h; exact xk0_8)⟩
  have EI_NotALot : SortI K ⟨e0, e1, e2, e3, e4, e5, e6, e7, e8⟩ ⟨v0, v1, v2⟩ e0 0 "NotALot" := ⟨XK0, XS0, rfl, xan0, xno0⟩
  have XO0 : OexB K e0 := ⟨⟨_, _, _, _, PySem.F.excBase_ValueError, PySem.F.store_ValueError, xei0, xeo0⟩, xhd0, xsa0, xsb0, xty0, xkc0⟩
  have FX0 := fun_mk (st := s_NotALot___init__) lX0 cX0 kX0
  have T_NotALot : ErrB l.prog w K mg base "NotALot" e0 "given" := ⟨XO0, xno0, PySem.W.mg_of X G en0, ⟨_, _, aX0, xti0, errB_init FX0 sc_NotALot___init__ XO0 xno0 (fun cdv A outer s H E => pss_one (ps_ostB (pv 0) (pv 1))), FX0.binds (fun _ _ _ _ _ _ us hl => match us, hl with | [_, _], _ => rfl)⟩⟩
  have XK7 : ExcK K e7 := ⟨xic7, xga7, xgg7, xsb7, xca7, xcb, xcc, xcm7, xhd7⟩
  have XS7 : IsSort K ⟨e0, e1, e2, e3, e4, e5, e6, e7, e8⟩ e7 7 := ⟨by decide, fun j a h => (match j, a, h with | 0, _, h => by cases h; exact xk7_0 | 1, _, h => by cases h; exact xk7_1 | 2, _, h => by cases h; exact xk7_2 | 3, _, h => by cases h; exact xk7_3 | 4, _, h => by cases h; exact xk7_4 | 5, _, h => by cases h; exact xk7_5 | 6, _, h => by cases h; exact xk7_6 | 7, _, h => by cases h; exact xk7_7 | 8, _, h => by cases h; exact xk7_8)⟩
  have EI_InvalidCounts : SortI K ⟨e0, e1, e2, e3, e4, e5, e6, e7, e8⟩ ⟨v0, v1, v2⟩ e7 7 "InvalidCounts" := ⟨XK7, XS7, rfl, xan7, xno7⟩
  have XO7 : OexB K e7 := ⟨⟨_, _, _, _, PySem.F.excBase_ValueError, PySem.F.store_ValueError, xei7, xeo7⟩, xhd7, xsa7, xsb7, xty7, xkc7⟩
  have FX7 := fun_mk (st := s_InvalidCounts___init__) lX7 cX7 kX7
  have T_InvalidCounts : ErrB l.prog w K mg base "InvalidCounts" e7 "index" := ⟨XO7, xno7, PySem.W.mg_of X G en7, ⟨_, _, aX7, xti7, errB_init FX7 sc_InvalidCounts___init__ XO7 xno7 (fun cdv A outer s H E => pss_one (ps_ostB (pv 0) (pv 1))), FX7.binds (fun _ _ _ _ _ _ us hl => match us, hl with | [_, _], _ => rfl)⟩⟩
  have p_shares : PropH l.prog w K mg base C "shares" "_shares" := prop_mk F_shares sc_Lot_shares rfl T.cl T.n4 ⟨atPshares, gePshares, taPshares, ⟨_, rePshares_⟩⟩ (fun _ _ _ _ _ _ us hl => match us, hl with | [_], _ => rfl)
  have h_cell := has_cell (P := l.prog) (w := w) (base := base) (K := K) D__law_cell B0
  have h_jar := has_jar (P := l.prog) (w := w) (base := base) (K := K) D__law_jar B0 h_cell
  have h_dig := has_dig (P := l.prog) (w := w) (base := base) (K := K) D__law_dig B0
  have h_take := has_take D__law_take B0 h_dig
  have h_lot := has_lotJ D__law_lot B0 h_dig h_take
  have h_text := has_textJ (P := l.prog) (w := w) (base := base) (K := K) D__law_text B0
  have h_numf := has_is_number_from (P := l.prog) (w := w) (base := base) D_is_number_from B
  have h_num := has_is_number D_is_number B h_numf
  have h_name := has_is_name (P := l.prog) (w := w) (base := base) D_is_name B C2
  have h_share := has_is_share D_is_share B C2 h_num
  have h_rnum := has_read_number (P := l.prog) (w := w) (base := base) D__read_number B
  have h_rhands := has_read_hands D__read_hands B C2 h_rnum
  have h_rwork := has_read_work D__read_work B C2 h_rnum h_name h_share
  have h_rworks := has_read_works D__read_works B h_rwork
  have h_span := has_span_of (P := l.prog) (w := w) (base := base) D__span_of B
  have h_total := has_total_of (P := l.prog) (w := w) (base := base) D__total_of B
  have hL : HasM l.prog w K mg base 6 C ["self", "text"] (spInit K C) := ⟨_, _, ⟨mk, aI, iI, kc⟩, ok_init FI T B C2 h_rhands h_rworks h_span h_total, FI.binds (ps := ["self", "text"]) fun _ _ _ _ _ _ us hl => match us, hl with | [_, _], _ => rfl⟩
  have h_qup := has_quotient_up (P := l.prog) (w := w) (base := base) D__quotient_up
  have h_turnsof := has_turns_of (K := K) D_turns_of h_qup
  have h_crew := has_crew_of (P := l.prog) (w := w) (base := base) (K := K) D_crew_of B0
  have h_sizes := has_sizes_of (P := l.prog) (w := w) (base := base) (K := K) D_sizes_of_crews B0
  have h_parts := has_parts_of (P := l.prog) (w := w) (base := base) (K := K) D_parts_of_crews B0
  have h_grown := has_grown D__grown_between B0 h_crew
  have h_before := has_before (P := l.prog) (w := w) (base := base) (K := K) D__standings_before B0
  have h_living := has_living D__living_of B0 W h_before
  have hWalk : HasM l.prog w K mg base 3 CW ["self", "shares", "hands"] (spInitW K CW) := ⟨_, _, ⟨mkW, aWI, iWI, kcW⟩, ok_initW FWI B0 W h_sizes h_parts h_turnsof h_crew h_grown h_living, FWI.binds (ps := ["self", "shares", "hands"]) fun _ _ _ _ _ _ us hl => match us, hl with | [_, _, _], _ => rfl⟩
  have m_behind := hasD_mk (ps := ["self", "moment", "ahead", "crew"]) F_Wahead_behind ⟨aWahead_behind, iWahead_behind, kWahead_behind⟩ (ok_behind (P := l.prog) (w := w) (base := base) F_Wahead_behind W) (fun _ _ _ _ _ _ us hl => match us, hl with | [_, _, _, _], _ => rfl)
  have m_alive := hasD_mk (ps := ["self", "moment", "ahead"]) F_Wis_alive ⟨aWis_alive, iWis_alive, kWis_alive⟩ (ok_alive (P := l.prog) (w := w) (base := base) F_Wis_alive W) (fun _ _ _ _ _ _ us hl => match us, hl with | [_, _, _], _ => rfl)
  have m_crews := hasD_mk (ps := ["self", "moment", "ahead"]) F_Wcrews ⟨aWcrews, iWcrews, kWcrews⟩ (ok_crews (P := l.prog) (w := w) (base := base) F_Wcrews W) (fun _ _ _ _ _ _ us hl => match us, hl with | [_, _, _], _ => rfl)
  have m_choices := hasD_mk (ps := ["self", "moment", "ahead"]) F_Wchoices ⟨aWchoices, iWchoices, kWchoices⟩ (ok_choicesW F_Wchoices W m_crews) (fun _ _ _ _ _ _ us hl => match us, hl with | [_, _, _], _ => rfl)
  have h_membersof := has_members_of (P := l.prog) (w := w) (base := base) (K := K) D_members_of B0
  have h_ticks := has_ticks_of D_ticks_of B0 h_membersof
  have h_numfA := has_is_number_fromA (P := l.prog) (w := w) (base := base) D_is_number_from B0
  have h_numA := has_is_numberA D_is_number B0 h_numfA
  have Z : LotNo K C := ⟨fun T9 h9 => by
    simp only [plainT, List.mem_cons, List.mem_nil_iff, or_false, List.not_mem_nil] at h9
    rcases h9 with rfl | rfl | rfl | rfl | rfl | rfl | rfl
    · exact no0
    · exact no1
    · exact no2
    · exact no3
    · exact no4
    · exact no5
    · exact no6⟩
  have x_clot := hx_check_lot D_check_lot B T I Z T_NotALot
  have MC : ∃ t, mg "MOST_COUNTS" = some (.int 60 t) := ⟨_, PySem.W.mg_of X G oMOST_COUNTS⟩
  have x_ccnt := hx_check_counts D_check_counts B0 MC C2.MOST_HANDS T_InvalidCounts h_numA
  have m_numbers := hasD_mk (ps := ["self", "moment", "ahead"]) F_Wnumbers_of ⟨aWnumbers_of, iWnumbers_of, kWnumbers_of⟩ (ok_numbersW (P := l.prog) (w := w) (base := base) F_Wnumbers_of B0 W) (fun _ _ _ _ _ _ us hl => match us, hl with | [_, _, _], _ => rfl)
  have h_any := has_any_wayG D_any_way B0 W m_alive m_choices m_behind
  have h_stin := has_standings_in D__standings_in B0 W m_numbers
  have h_layers := has_layers_of D_layers_of B0 T W p_shares hWalk m_crews m_behind h_stin
  have h_longest : Has l.prog w K mg base 6 "longest" ["lot", "counts"] (spLongestW K C e0 e7) := D_longest.has (fun _ _ _ _ _ _ us hl => match us, hl with | [_, _], _ => rfl) fun f fd F => Ts.FnOk.noX (okx_longest F B0 x_clot x_ccnt h_layers) fun _ _ _ _ h => h
  have h_fit := has_fitJ D__law_fitting B0 h_dig h_lot
  have h_sort := has_sort (P := l.prog) (w := w) (base := base) D__law_sort B0 N
  have h_odd := has_oddJ (P := l.prog) (w := w) (base := base) (K := K) D__law_odd h_take
  have x_plan : HasX l.prog w K mg base 6 "plan" ["lot", "counts"] (spPlan K C e0 e7) := D_plan.hasX (fun _ _ _ _ _ _ us hl => match us, hl with | [_, _], _ => rfl) fun f fd F => okx_plan F B0 T W p_shares hWalk x_clot x_ccnt h_any h_ticks
  have x_longestq : HasQX l.prog w K mg base 6 "longest" ["lot", "counts"] ["counts", "lot"] back (spLongest K C e0 e7) := D_longest.hasQX ["counts", "lot"] back vals_back (fun _ _ _ _ _ _ us hl => match us, hl with | [_, _], _ => rfl) fun f fd F => okx_longest F B0 x_clot x_ccnt h_layers
  have x_least : HasX l.prog w K mg base 6 "least_more" ["lot", "counts"] (spLeast K C e0 e7) := D_least_more.hasX (fun _ _ _ _ _ _ us hl => match us, hl with | [_, _], _ => rfl) fun f fd F => okx_least F B0 T W p_shares hWalk m_alive x_clot x_ccnt
  have hm_a : (pl10, (("_law_asked" : Str) ++ ".<locals>." ++ "<lambda>")) ∈ (lamT pl10 "_law_asked" : List (Addr × Str)) := by simp [lamT]
  have hu_a : ∀ p ∈ (lamT pl10 "_law_asked" : List (Addr × Str)), p.1 = pl10 → p.2 = ("_law_asked" : Str) ++ ".<locals>." ++ "<lambda>" := fun p hp e => by
    simp only [lamT, List.mem_cons, List.mem_nil_iff, or_false, List.not_mem_nil] at hp
    rcases hp with rfl
    rfl
  have h_asked := has_asked47 D__law_asked TB__law_asked hm_a hu_a B0 N EI_NotALot EI_InvalidCounts D__law_caught h_sort x_plan x_longestq x_least
  have h_right := has_right47 (c := ⟨e0, e1, e2, e3, e4, e5, e6, e7, e8⟩) D__law_right B0 T hL h_fit h_odd h_text h_dig h_asked h_longest
  exact ok_lawJT (k := 9) F B0 h_jar h_right
theorem all_F {l : PySem.W.OpenLaw} {w : World} {K : PySem.W.Frag} {h : Heap} {mg : Str → Option Value} {fa : Addr} (X : K.In h) (G : h.Ns mainGlobals mg) (hfa : mg "law" = some (.ref fa)) (c : SaysF fnF tfF exF h K)
    : ∃ (fd : FuncData) (cs : List (Addr × Addr)) (T : List (Addr × Str)), (∀ p ∈ cs, PySem.W.codeHdIn K p.1 p.2 = true) ∧ (∀ p ∈ cs, K.lookup p.2 = none) ∧ (∀ p ∈ cs, h.get? p.2 = some { cls := .none, data := .fields #[] }) ∧ (∀ p ∈ T, ∃ c, (c, p.1) ∈ cs) ∧ (∀ (s : Shared) (u : Value), BindsTo s fd ⟨[u], []⟩ [("_law_cells", u)]) ∧ ∀ base : Heap, (∀ p ∈ cs, TabB base mg p.1 p.2) → FnG l.prog w K mg base 13 fa fd ["_law_cells"] (spLawT K T) := by
  have m : exF K = true := c.more
  unfold exF at m
  obtain ⟨m0, m⟩ := He.ba m
  obtain ⟨a0, k0, a1, k1, a2, k2, a3, k3, a4, k4, a5, k5⟩ := of_decide_eq_true m0
  obtain ⟨m1, m⟩ := He.ba m
  obtain ⟨a6, k6, a7, k7, a8, k8, a9, k9, a10, k10, a11, k11⟩ := of_decide_eq_true m1
  obtain ⟨m2, m⟩ := He.ba m
  obtain ⟨a12, k12, a13, k13, a14, k14, a15, k15, a16, k16, a17, k17⟩ := of_decide_eq_true m2
  obtain ⟨m3, m⟩ := He.ba m
  obtain ⟨a18, k18, a19, k19, a20, k20, a21, k21, a22, k22, a23, k23⟩ := of_decide_eq_true m3
  obtain ⟨m4, m⟩ := He.ba m
  obtain ⟨a24, k24, a25, k25, a26, k26, a27, k27, a28, k28, a29, k29⟩ := of_decide_eq_true m4
  obtain ⟨m5, m⟩ := He.ba m
  obtain ⟨a30, k30, a31, k31, a32, k32, a33, k33, a34, k34, a35, k35⟩ := of_decide_eq_true m5
  obtain ⟨m6, m⟩ := He.ba m
  obtain ⟨a36, k36, a37, k37, a38, k38, a39, k39, a40, k40, aC, aI⟩ := of_decide_eq_true m6
  obtain ⟨m7, m⟩ := He.ba m
  obtain ⟨kI, iI, pg, hd, po, sa, mk, kc, ca, cb, cc, cm⟩ := of_decide_eq_true m7
  obtain ⟨m8, m⟩ := He.ba m
  obtain ⟨n0, n1, n2, n3, n4, n5, atPshares, rePshares_, gePshares, taPshares, kPshares, aCW⟩ := of_decide_eq_true m8
  obtain ⟨m9, m⟩ := He.ba m
  obtain ⟨aWI, kWI, iWI, pgW, hdW, poW, saW, mkW, kcW, nW0, nW1, nW2⟩ := of_decide_eq_true m9
  obtain ⟨m10, m⟩ := He.ba m
  obtain ⟨nW3, nW4, nW5, nW6, nW7, aWis_alive, kWis_alive, iWis_alive, aWcrews, kWcrews, iWcrews, aWchoices⟩ := of_decide_eq_true m10
  obtain ⟨m11, m⟩ := He.ba m
  obtain ⟨kWchoices, iWchoices, aWahead_behind, kWahead_behind, iWahead_behind, aWnumbers_of, kWnumbers_of, iWnumbers_of, no0, no1, no2, no3⟩ := of_decide_eq_true m11
  obtain ⟨m12, m⟩ := He.ba m
  obtain ⟨no4, no5, no6, en0, en1, en2, en3, en4, en5, en6, en7, en8⟩ := of_decide_eq_true m12
  obtain ⟨m13, m⟩ := He.ba m
  obtain ⟨ev0, ev1, ev2, xcb, xcc, xei0, xeo0, xsa0, xga0, xgg0, xca0, xno0⟩ := of_decide_eq_true m13
  obtain ⟨m14, m⟩ := He.ba m
  obtain ⟨xsb0, xty0, xkc0, xic0, xcm0, xhd0, aX0, kX0, xti0, xk0_0, xk0_1, xk0_2⟩ := of_decide_eq_true m14
  obtain ⟨m15, m⟩ := He.ba m
  obtain ⟨xk0_3, xk0_4, xk0_5, xk0_6, xk0_7, xk0_8, xan0, xei7, xeo7, xsa7, xga7, xgg7⟩ := of_decide_eq_true m15
  obtain ⟨m16, m⟩ := He.ba m
  obtain ⟨xca7, xno7, xsb7, xty7, xkc7, xic7, xcm7, xhd7, aX7, kX7, xti7, xk7_0⟩ := of_decide_eq_true m16
  obtain ⟨m17, m⟩ := He.ba m
  obtain ⟨xk7_1, xk7_2, xk7_3, xk7_4, xk7_5, xk7_6, xk7_7, xk7_8, xan7, o0, o1, o2⟩ := of_decide_eq_true m17
  obtain ⟨m18, m⟩ := He.ba m
  obtain ⟨o3, o4, oMOST_COUNTS, zlen, zrange, zabs, zdivmod, zint, zstr, zbool, zrepr, zisinstance⟩ := of_decide_eq_true m18
  obtain ⟨m19, m⟩ := He.ba m
  obtain ⟨ztuple, zlist, zdict, zzip, zsum, zall, zmax, zmin, zsorted, zset, zenumerate, g_gcd⟩ := of_decide_eq_true m19
  have m20 := m
  have g_lcm := of_decide_eq_true m20
  obtain ⟨oc0, od0, sl0, kV0, dc0, pm0, an0, cd0, ct0, l0, c0⟩ := c.def_ 0
  obtain ⟨oc1, od1, sl1, kV1, dc1, pm1, an1, cd1, ct1, l1, c1⟩ := c.def_ 1
  obtain ⟨oc2, od2, sl2, kV2, dc2, pm2, an2, cd2, ct2, l2, c2⟩ := c.def_ 2
  obtain ⟨oc3, od3, sl3, kV3, dc3, pm3, an3, cd3, ct3, l3, c3⟩ := c.def_ 3
  obtain ⟨oc4, od4, sl4, kV4, dc4, pm4, an4, cd4, ct4, l4, c4⟩ := c.def_ 4
  obtain ⟨oc5, od5, sl5, kV5, dc5, pm5, an5, cd5, ct5, l5, c5⟩ := c.def_ 5
  obtain ⟨oc6, od6, sl6, kV6, dc6, pm6, an6, cd6, ct6, l6, c6⟩ := c.def_ 6
  obtain ⟨oc7, od7, sl7, kV7, dc7, pm7, an7, cd7, ct7, l7, c7⟩ := c.def_ 7
  obtain ⟨oc8, od8, sl8, kV8, dc8, pm8, an8, cd8, ct8, l8, c8⟩ := c.def_ 8
  obtain ⟨oc9, od9, sl9, kV9, dc9, pm9, an9, cd9, ct9, l9, c9⟩ := c.def_ 9
  obtain ⟨oc10, od10, sl10, kV10, dc10, pm10, an10, cd10, ct10, l10, c10⟩ := c.def_ 10
  obtain ⟨oc11, od11, sl11, kV11, dc11, pm11, an11, cd11, ct11, l11, c11⟩ := c.def_ 11
  obtain ⟨oc12, od12, sl12, kV12, dc12, pm12, an12, cd12, ct12, l12, c12⟩ := c.def_ 12
  obtain ⟨oc13, od13, sl13, kV13, dc13, pm13, an13, cd13, ct13, l13, c13⟩ := c.def_ 13
  obtain ⟨oc14, od14, sl14, kV14, dc14, pm14, an14, cd14, ct14, l14, c14⟩ := c.def_ 14
  obtain ⟨oc15, od15, sl15, kV15, dc15, pm15, an15, cd15, ct15, l15, c15⟩ := c.def_ 15
  obtain ⟨oc16, od16, sl16, kV16, dc16, pm16, an16, cd16, ct16, l16, c16⟩ := c.def_ 16
  obtain ⟨oc17, od17, sl17, kV17, dc17, pm17, an17, cd17, ct17, l17, c17⟩ := c.def_ 17
  obtain ⟨oc18, od18, sl18, kV18, dc18, pm18, an18, cd18, ct18, l18, c18⟩ := c.def_ 18
  obtain ⟨oc19, od19, sl19, kV19, dc19, pm19, an19, cd19, ct19, l19, c19⟩ := c.def_ 19
  obtain ⟨oc20, od20, sl20, kV20, dc20, pm20, an20, cd20, ct20, l20, c20⟩ := c.def_ 20
  obtain ⟨oc21, od21, sl21, kV21, dc21, pm21, an21, cd21, ct21, l21, c21⟩ := c.def_ 21
  obtain ⟨oc22, od22, sl22, kV22, dc22, pm22, an22, cd22, ct22, l22, c22⟩ := c.def_ 22
  obtain ⟨oc23, od23, sl23, kV23, dc23, pm23, an23, cd23, ct23, l23, c23⟩ := c.def_ 23
  obtain ⟨oc24, od24, sl24, kV24, dc24, pm24, an24, cd24, ct24, l24, c24⟩ := c.def_ 24
  obtain ⟨oc25, od25, sl25, kV25, dc25, pm25, an25, cd25, ct25, l25, c25⟩ := c.def_ 25
  obtain ⟨oc26, od26, sl26, kV26, dc26, pm26, an26, cd26, ct26, l26, c26⟩ := c.def_ 26
  obtain ⟨oc27, od27, sl27, kV27, dc27, pm27, an27, cd27, ct27, l27, c27⟩ := c.def_ 27
  obtain ⟨oc28, od28, sl28, kV28, dc28, pm28, an28, cd28, ct28, l28, c28⟩ := c.def_ 28
  obtain ⟨oc29, od29, sl29, kV29, dc29, pm29, an29, cd29, ct29, l29, c29⟩ := c.def_ 29
  obtain ⟨oc30, od30, sl30, kV30, dc30, pm30, an30, cd30, ct30, l30, c30⟩ := c.def_ 30
  obtain ⟨oc31, od31, sl31, kV31, dc31, pm31, an31, cd31, ct31, l31, c31⟩ := c.def_ 31
  obtain ⟨oc32, od32, sl32, kV32, dc32, pm32, an32, cd32, ct32, l32, c32⟩ := c.def_ 32
  obtain ⟨oc33, od33, sl33, kV33, dc33, pm33, an33, cd33, ct33, l33, c33⟩ := c.def_ 33
  obtain ⟨oc34, od34, sl34, kV34, dc34, pm34, an34, cd34, ct34, l34, c34⟩ := c.def_ 34
  obtain ⟨oc35, od35, sl35, kV35, dc35, pm35, an35, cd35, ct35, l35, c35⟩ := c.def_ 35
  obtain ⟨oc36, od36, sl36, kV36, dc36, pm36, an36, cd36, ct36, l36, c36⟩ := c.def_ 36
  obtain ⟨oc37, od37, sl37, kV37, dc37, pm37, an37, cd37, ct37, l37, c37⟩ := c.def_ 37
  obtain ⟨oc38, od38, sl38, kV38, dc38, pm38, an38, cd38, ct38, l38, c38⟩ := c.def_ 38
  obtain ⟨oc39, od39, sl39, kV39, dc39, pm39, an39, cd39, ct39, l39, c39⟩ := c.def_ 39
  obtain ⟨oc40, od40, sl40, kV40, dc40, pm40, an40, cd40, ct40, l40, c40⟩ := c.def_ 40
  obtain ⟨ocI, odI, slI, kVI, dcI, pmI, anI, cdI, ctI, lI, cI⟩ := c.def_ 41
  obtain ⟨ocPshares, odPshares, slPshares, kVPshares, dcPshares, pmPshares, anPshares, cdPshares, ctPshares, lPshares, cPshares⟩ := c.def_ 42
  obtain ⟨ocWI, odWI, slWI, kVWI, dcWI, pmWI, anWI, cdWI, ctWI, lWI, cWI⟩ := c.def_ 43
  obtain ⟨ocWis_alive, odWis_alive, slWis_alive, kVWis_alive, dcWis_alive, pmWis_alive, anWis_alive, cdWis_alive, ctWis_alive, lWis_alive, cWis_alive⟩ := c.def_ 44
  obtain ⟨ocWcrews, odWcrews, slWcrews, kVWcrews, dcWcrews, pmWcrews, anWcrews, cdWcrews, ctWcrews, lWcrews, cWcrews⟩ := c.def_ 45
  obtain ⟨ocWchoices, odWchoices, slWchoices, kVWchoices, dcWchoices, pmWchoices, anWchoices, cdWchoices, ctWchoices, lWchoices, cWchoices⟩ := c.def_ 46
  obtain ⟨ocWahead_behind, odWahead_behind, slWahead_behind, kVWahead_behind, dcWahead_behind, pmWahead_behind, anWahead_behind, cdWahead_behind, ctWahead_behind, lWahead_behind, cWahead_behind⟩ := c.def_ 47
  obtain ⟨ocWnumbers_of, odWnumbers_of, slWnumbers_of, kVWnumbers_of, dcWnumbers_of, pmWnumbers_of, anWnumbers_of, cdWnumbers_of, ctWnumbers_of, lWnumbers_of, cWnumbers_of⟩ := c.def_ 48
  obtain ⟨ocX0, odX0, slX0, kVX0, dcX0, pmX0, anX0, cdX0, ctX0, lX0, cX0⟩ := c.def_ 49
  obtain ⟨ocX7, odX7, slX7, kVX7, dcX7, pmX7, anX7, cdX7, ctX7, lX7, cX7⟩ := c.def_ 50
  -- the code objects of the defs that make lambdas
  have zz10 := codeAd_ok l10 rfl c10
  obtain rfl : cd10 = .ref (codeAd K (He.ga K "_law_asked")) := zz10
  obtain ⟨fd, hT, bind, hF⟩ := all_mk (l := l) (w := w) (pl10 := tabAd K (codeAd K (He.ga K "_law_asked"))) X G hfa a0 l0 c0 k0 a1 l1 c1 k1 a2 l2 c2 k2 a3 l3 c3 k3 a4 l4 c4 k4 a5 l5 c5 k5 a6 l6 c6 k6 a7 l7 c7 k7 a8 l8 c8 k8 a9 l9 c9 k9 a10 l10 c10 k10 a11 l11 c11 k11 a12 l12 c12 k12 a13 l13 c13 k13 a14 l14 c14 k14 a15 l15 c15 k15 a16 l16 c16 k16 a17 l17 c17 k17 a18 l18 c18 k18 a19 l19 c19 k19 a20 l20 c20 k20 a21 l21 c21 k21 a22 l22 c22 k22 a23 l23 c23 k23 a24 l24 c24 k24 a25 l25 c25 k25 a26 l26 c26 k26 a27 l27 c27 k27 a28 l28 c28 k28 a29 l29 c29 k29 a30 l30 c30 k30 a31 l31 c31 k31 a32 l32 c32 k32 a33 l33 c33 k33 a34 l34 c34 k34 a35 l35 c35 k35 a36 l36 c36 k36 a37 l37 c37 k37 a38 l38 c38 k38 a39 l39 c39 k39 a40 l40 c40 k40 aC aI lI cI kI iI pg hd po sa mk kc ca cb cc cm n0 n1 n2 n3 n4 n5 atPshares rePshares_ gePshares taPshares lPshares cPshares kPshares aCW aWI lWI cWI kWI iWI pgW hdW poW saW mkW kcW nW0 nW1 nW2 nW3 nW4 nW5 nW6 nW7 aWis_alive lWis_alive cWis_alive kWis_alive iWis_alive aWcrews lWcrews cWcrews kWcrews iWcrews aWchoices lWchoices cWchoices kWchoices iWchoices aWahead_behind lWahead_behind cWahead_behind kWahead_behind iWahead_behind aWnumbers_of lWnumbers_of cWnumbers_of kWnumbers_of iWnumbers_of no0 no1 no2 no3 no4 no5 no6 en0 en1 en2 en3 en4 en5 en6 en7 en8 ev0 ev1 ev2 xcb xcc xei0 xeo0 xsa0 xga0 xgg0 xca0 xno0 xsb0 xty0 xkc0 xic0 xcm0 xhd0 aX0 lX0 cX0 kX0 xti0 xk0_0 xk0_1 xk0_2 xk0_3 xk0_4 xk0_5 xk0_6 xk0_7 xk0_8 xan0 xei7 xeo7 xsa7 xga7 xgg7 xca7 xno7 xsb7 xty7 xkc7 xic7 xcm7 xhd7 aX7 lX7 cX7 kX7 xti7 xk7_0 xk7_1 xk7_2 xk7_3 xk7_4 xk7_5 xk7_6 xk7_7 xk7_8 xan7 o0 o1 o2 o3 o4 oMOST_COUNTS zlen zrange zabs zdivmod zint zstr zbool zrepr zisinstance ztuple zlist zdict zzip zsum zall zmax zmin zsorted zset zenumerate g_gcd g_lcm
  refine ⟨fd, [(codeAd K (He.ga K "_law_asked"), tabAd K (codeAd K (He.ga K "_law_asked")))], _, ?_, ?_, ?_, hT, bind, hF⟩
  · intro p hp
    simp only [List.mem_cons, List.mem_nil_iff, or_false, List.not_mem_nil] at hp
    rcases hp with rfl
    · exact c.heads _ (List.mem_of_getElem? (i := 0) rfl)
  · intro p hp
    simp only [List.mem_cons, List.mem_nil_iff, or_false, List.not_mem_nil] at hp
    rcases hp with rfl
    · exact c.outs _ (List.mem_of_getElem? (i := 0) rfl)
  · intro p hp
    simp only [List.mem_cons, List.mem_nil_iff, or_false, List.not_mem_nil] at hp
    rcases hp with rfl
    · exact c.empties _ (List.mem_of_getElem? (i := 0) rfl)
end Ts
open PySem PySem.W PyProof.Rows
set_option maxRecDepth 100000 in
set_option maxHeartbeats 0 in
theorem PySem.Challenge.cw_tickshares_k47_plans_refused_holds : PySem.Challenge.rw_tickshares_k47_plans_refused.Holds := by
  w_on; o_law
  refine HandSHeadRun.head_imp (r := Ts.rwF) (q := Ts.vwF) (H := Ts.hookF Ts.asF Ts.fnF Ts.tfF Ts.exF) (M := 20000) (loose := Ts.nmF) (d := HandSHeadRun.topDef Ts.rwF.prog 75) (kwd := []) Ts.viewF_eq Ts.runF
    (by kernel_rfl) (by kernel_rfl) (by kernel_rfl) (by rfl) (by first | assumption | decide +kernel) (by decide +kernel) ⟨rfl, rfl, rfl, rfl, rfl, by decide +kernel⟩ ?hw ?hc
  case hw => w_witness2
  case hc =>
    refine Ts.walk_GFT (l := PySem.Challenge.rw_tickshares_k47_plans_refused) (k := 13) (x := "_law_cells") rfl (by kernel_rfl) ⟨rfl, by decide, by decide⟩ ?F
    intro w mg fa h Y G hmg
    obtain ⟨K, KX, c⟩ := Y
    have hm : mg ("law" : Str) = some (.ref fa) := by
      have e : (HandSHeadRun.topDef Ts.rwF.prog 75).name = ("law" : Str) := by kernel_rfl
      rw [← e]; exact hmg
    obtain ⟨fd, cs, T, h1, h2, h3, h4, hb, hF⟩ := Ts.all_F KX G hm c
    exact ⟨K, fd, cs, T, KX, h1, h2, h3, h4, hb, hF⟩
