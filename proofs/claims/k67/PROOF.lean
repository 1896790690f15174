import PyProof.Rows.All
import Wide.All
import OpenK.AllK
import Wide.FinOn
import PyProof.ReprRoads
import KE.KMathG
import HandS.ForMost
import HandS.IsInst
import HandS.FStr
import HandS.Property
import HandS.Gcd
import HandS.NoneIn
import HandS.Style
import HandS.Flow
import HandS.Wide
import HandS.Conv
import HandS.Walk
import HandS.RaiseMore
import KE.KUnpackStar
import KE.KDictSum
import HandS.Sort
import HandS.MakeKwOnly
import HandS.Strs
import HandS.Ends
import HandS.SlotsOwn
import HandS.More
import PyProof.InstNe
import HandS.Small
import KE.KDictZip
import HandS.Zip
import HandS.Star
import HandS.Codes
import HandS.Lambda
import HandS.TryMany
import HandS.HotCalls
import HandS.ExcInit
import HandS.ExcIs
import HandS.ExcInitHot
import KE.KExcIs
import HandS.WordsExc
import HandS.EndTab
import HandS.Head0
import HandS.Head1
import HandS.Head2
import HandS.Head3
import HandS.HeadHook1
import HandS.HeadHook2
import HandS.HeadHook3
import HandS.HeadHook4
import HandS.TupMul
import PyProof.ReprLen
import HandS.TupSets
import HandS.SortRule
import HandS.NamedTupSort
import PyProof.LongRange
import PyProof.ListRange
import HandS.WideBits
import KE.GoesEnum
import HandS.Iter
import HandS.TryOnly
import KE.KExcInit
import PyProof.ExcBaseAll.LookupError
import PyProof.ExcBaseAll.ArithmeticError
import KE.KDictItemsList
import KE.GoesNew
import KE.GoesMore
import KE.LtSeq
import KE.LtData
import HandS.CallLocal
import KE.KTupSum
import HandS.TupLe
import PyProof.ListIndex
import KE.KDictPairs
import KE.KEqDict
import KE.SortData
import KE.DataCmp
import HandS.SortInts
import HandS.SetFor
import HandS.DictComp
import PyProof.Rows.TupDisplay
import HandS.Dict
import HandS.Deep
import PySem.Challenge.RW_tickshares_k67_whole_tables_judged
set_option Elab.async false
set_option linter.all false
set_option maxHeartbeats 4000000
set_option maxRecDepth 100000
namespace Ts
open PySem PySem.Spec PyProof.Rows L2
def top (i : Nat) : Stmt := PySem.Challenge.pw_tickshares_k67_whole_tables_judged.main.body.getD i (.Pass ⟨0, 0, 0, 0⟩)
end Ts
namespace Ts
open PySem PySem.Spec PyProof.Rows L2
/-! ## heaps -/
theorem same_new {H : Hp} {p : Addr} {o : HO} (h : H p = none) : Same H (upd H p o) := fun b x e => by
  rw [upd_ne (ne_of_none e h)]; exact e
/-- all but what stands at b is as it was -/
def But (b : Addr) (H H' : Hp) : Prop := ∀ a o, a ≠ b → H a = some o → H' a = some o
def hid (b : Addr) (H : Hp) : Hp := fun a => if a = b then none else H a
theorem hid_ne {b a : Addr} {H : Hp} (h : a ≠ b) : hid b H a = H a := if_neg h
theorem hid_some {b a : Addr} {H : Hp} {o : HO} (h : hid b H a = some o) : a ≠ b ∧ H a = some o := by
  unfold hid at h
  split at h
  · cases h
  · exact ⟨by assumption, h⟩
theorem hid_sub {b : Addr} {H : Hp} : Same (hid b H) H := fun a o h => (hid_some h).2
theorem But.refl {b : Addr} {H : Hp} : But b H H := fun _ _ _ h => h
theorem But.trans {b : Addr} {H H1 H2 : Hp} (x : But b H H1) (y : But b H1 H2) : But b H H2 := fun a o n h => y a o n (x a o n h)
theorem But.hid {b : Addr} {H H' : Hp} (x : But b H H') : Same (hid b H) (hid b H') := fun a o h => by
  obtain ⟨n, e⟩ := hid_some h
  rw [hid_ne n]; exact x a o n e
theorem But.of {b : Addr} {H H' : Hp} (x : Same (Ts.hid b H) (Ts.hid b H')) : But b H H' := fun a o n h => (hid_some (x a o (by rw [hid_ne n]; exact h))).2
theorem But.of_same {b : Addr} {H H' : Hp} (x : Same H H') : But b H H' := fun a o _ h => x a o h
theorem But.set {b : Addr} {H : Hp} {o : HO} : But b H (upd H b o) := fun a u n h => by rw [upd_ne n]; exact h
/-- a fresh address of a heap that has b -/
theorem But.free {b p : Addr} {H H' : Hp} (x : But b H H') (hb : b ≠ p) (h : H' p = none) : H p = none := by
  cases e : H p with
  | none => rfl
  | some o => rw [x p o (Ne.symm hb) e] at h; cases h
end Ts
namespace L2
open PySem PySem.Spec PyProof.Rows
/-! ## data that is read -/
mutual
theorem Dp.mono {K : PySem.W.Frag} {H H' : Hp} (s : Same H H') : ∀ {v : V} {d : PyData}, Dp K H v d → Dp K H' v d
  | _, _, .non => .non
  | _, _, .bl b => .bl b
  | _, _, .int i => .int i
  | _, _, .str x => .str x
  | _, _, .lst h a => .lst (s.seq h) (DpAll.mono s a)
  | _, _, .tup h a => .tup (by
      rcases h with (h | ⟨o, h⟩) | h
      · exact .inl (.inl (s _ _ h))
      · exact .inl (.inr ⟨o, s _ _ h⟩)
      · exact .inr h) (DpAll.mono s a)
theorem DpAll.mono {K : PySem.W.Frag} {H H' : Hp} (s : Same H H') : ∀ {vs : List V} {ds : List PyData}, DpAll K H vs ds → DpAll K H' vs ds
  | _, _, .nil => .nil
  | _, _, .cons h a => .cons (Dp.mono s h) (DpAll.mono s a)
end
theorem sameT {K : PySem.W.Frag} {H H' : Hp} (s : Same H H') {a : Addr} {xs : List V} (h : SqT K H a xs) : SqT K H' a xs := by
  rcases h with (h | ⟨o, h⟩) | h
  · exact .inl (.inl (s _ _ h))
  · exact .inl (.inr ⟨o, s _ _ h⟩)
  · exact .inr h
theorem DpAll.length {K : PySem.W.Frag} {H : Hp} : ∀ {vs : List V} {ds : List PyData}, DpAll K H vs ds → vs.length = ds.length
  | _, _, .nil => rfl
  | _, _, .cons _ a => congrArg (· + 1) (DpAll.length a)
theorem DpAll.get {K : PySem.W.Frag} {H : Hp} : ∀ {vs : List V} {ds : List PyData}, DpAll K H vs ds → ∀ {i : Nat} {v : V}, vs[i]? = some v → ∃ d, ds[i]? = some d ∧ Dp K H v d
  | _, _, .cons h a, 0, v, e => by
    have e' : _ = v := Option.some.inj e
    subst e'; exact ⟨_, rfl, h⟩
  | _, _, .cons h a, i + 1, v, e => DpAll.get (i := i) a e
theorem DpAll.append {K : PySem.W.Frag} {H : Hp} : ∀ {vs ws : List V} {ds es : List PyData}, DpAll K H vs ds → DpAll K H ws es → DpAll K H (vs ++ ws) (ds ++ es)
  | _, _, _, _, .nil, b => b
  | _, _, _, _, .cons h a, b => .cons h (DpAll.append a b)
theorem Dp.list {K : PySem.W.Frag} {H : Hp} {v : V} {ds : List PyData} (h : Dp K H v (.list ds)) : ∃ a xs, v = .ref a ∧ SqL K H a xs ∧ DpAll K H xs ds := by
  cases h with
  | lst h a => exact ⟨_, _, rfl, h, a⟩
theorem Dp.tuple {K : PySem.W.Frag} {H : Hp} {v : V} {ds : List PyData} (h : Dp K H v (.tuple ds)) : ∃ a xs, v = .ref a ∧ SqT K H a xs ∧ DpAll K H xs ds := by
  cases h with
  | tup h a => exact ⟨_, _, rfl, h, a⟩
theorem Dp.int_eq {K : PySem.W.Frag} {H : Hp} {v : V} {i : Int} (h : Dp K H v (.int i)) : v = .int i := by cases h; rfl
theorem Dp.str_eq {K : PySem.W.Frag} {H : Hp} {v : V} {x : Str} (h : Dp K H v (.str x)) : v = .str x := by cases h; rfl
theorem DpAll.two {K : PySem.W.Frag} {H : Hp} {xs : List V} {d e : PyData} (h : DpAll K H xs [d, e]) : ∃ v w, xs = [v, w] ∧ Dp K H v d ∧ Dp K H w e := by
  cases h with
  | cons h a => cases a with
    | cons g b => cases b; exact ⟨_, _, rfl, h, g⟩
theorem DpAll.ints {K : PySem.W.Frag} {H : Hp} : ∀ (l : List Int), DpAll K H (l.map V.int) (l.map PyData.int)
  | [] => .nil
  | i :: l => .cons (.int i) (DpAll.ints l)
theorem DpAll.strs {K : PySem.W.Frag} {H : Hp} : ∀ (l : List Str), DpAll K H (l.map V.str) (l.map PyData.str)
  | [] => .nil
  | i :: l => .cons (.str i) (DpAll.strs l)
theorem DpAll.ints_eq {K : PySem.W.Frag} {H : Hp} : ∀ {vs : List V} {l : List Int}, DpAll K H vs (l.map PyData.int) → vs = l.map V.int
  | [], [], _ => rfl
  | _ :: _, [], h => nomatch h
  | _, i :: l, .cons h a => by rw [Dp.int_eq h, DpAll.ints_eq a]; rfl
/-- an address that holds no list and no tuple is none of the data's -/
def NoSeq (o : HO) : Prop := (∀ xs, o ≠ .lst xs) ∧ (∀ xs, o ≠ .tup xs) ∧ ∀ ob u, o ≠ .frz ob u
theorem NoSeq.ins {C dx : Addr} {fs : List (Str × V)} : NoSeq (.ins C dx fs) := ⟨fun _ z => (nomatch z), fun _ z => (nomatch z), fun _ _ z => (nomatch z)⟩
theorem SqL.hide {K : PySem.W.Frag} {H : Hp} {a b : Addr} {o : HO} {xs : List V} (ha : H a = some o) (n : NoSeq o) (h : SqL K H b xs) : SqL K (Ts.hid a H) b xs := by
  have ne : ∀ u, H b = some u → u ≠ o → b ≠ a := fun u e d z => by rw [z, ha] at e; exact d (Option.some.inj e).symm
  rcases h with (h | ⟨ob, h⟩) | h
  · exact .inl (.inl ((Ts.hid_ne (ne _ h fun z => n.1 _ z.symm)).trans h))
  · exact .inl (.inr ⟨ob, (Ts.hid_ne (ne _ h fun z => n.2.2 _ _ z.symm)).trans h⟩)
  · exact .inr h
theorem SqT.hide {K : PySem.W.Frag} {H : Hp} {a b : Addr} {o : HO} {xs : List V} (ha : H a = some o) (n : NoSeq o) (h : SqT K H b xs) : SqT K (Ts.hid a H) b xs := by
  have ne : ∀ u, H b = some u → u ≠ o → b ≠ a := fun u e d z => by rw [z, ha] at e; exact d (Option.some.inj e).symm
  rcases h with (h | ⟨ob, h⟩) | h
  · exact .inl (.inl ((Ts.hid_ne (ne _ h fun z => n.2.1 _ z.symm)).trans h))
  · exact .inl (.inr ⟨ob, (Ts.hid_ne (ne _ h fun z => n.2.2 _ _ z.symm)).trans h⟩)
  · exact .inr h
mutual
theorem Dp.hide {K : PySem.W.Frag} {H : Hp} {a : Addr} {o : HO} (ha : H a = some o) (n : NoSeq o) : ∀ {v : V} {d : PyData}, Dp K H v d → Dp K (Ts.hid a H) v d
  | _, _, .non => .non
  | _, _, .bl b => .bl b
  | _, _, .int i => .int i
  | _, _, .str x => .str x
  | _, _, .lst h x => .lst (h.hide ha n) (DpAll.hide ha n x)
  | _, _, .tup h x => .tup (h.hide ha n) (DpAll.hide ha n x)
theorem DpAll.hide {K : PySem.W.Frag} {H : Hp} {a : Addr} {o : HO} (ha : H a = some o) (n : NoSeq o) : ∀ {vs : List V} {ds : List PyData}, DpAll K H vs ds → DpAll K (Ts.hid a H) vs ds
  | _, _, .nil => .nil
  | _, _, .cons h x => .cons (Dp.hide ha n h) (DpAll.hide ha n x)
end
end L2
namespace Ts
open PySem PySem.Spec PyProof.Rows L2
/-- a comprehension's clause without tests -/
theorem yesIf {σ : L2.St} {H : Hp} {A B : Hp → Prop} (h : A H) : tYes σ H (fun b H3 => if b = true then A H3 else B H3) := by
  show (if true = true then A H else B H)
  exact iteT h
/-! ## a def by its promise -/
section
variable (P : Program) (w : World) (K : PySem.W.Frag) (mg : Str → Option Value) (base : Heap)
structure Has (k : Nat) (x : Str) (ps : List Str) (sp : Sp) : Prop where
  ex : ∃ f fd, FnOk P w K mg base CX0 k f fd ps sp ∧ mg x = some (.ref f) ∧ PySem.W.keepIn K (.ref f) = true ∧ Binds K fd ps []
/-- a def that stands at the top under its name -/
structure DefAt (x : Str) (st : Stmt) : Prop where
  ex : ∃ f fd, Fun K x x st f fd ∧ mg x = some (.ref f)
/-- as FnOk, where no repr runs around the call -/
structure FnG (k : Nat) (f : Addr) (fd : FuncData) (ps : List Str) (sp : Sp) : Prop where
  len : ∀ vs H Q E, sp vs H Q E → vs.length = ps.length
  go : ∀ (A : Around) (out : List Env) (s : Shared) (H : Hp) (us : List Value) (vs : List V) (Q : VK), A.guards = some [] → Room k A → Env0 P w K mg base A out s H →
    BindsTo s fd ⟨us, []⟩ (ps.zip us) → Vals vs us → sp vs H Q E0 → codeAny (model P w) A (.call (.ref f) ⟨us, []⟩) (CR CX0 out P w H s Q E0) s
structure HasG (k : Nat) (x : Str) (ps : List Str) (sp : Sp) : Prop where
  ex : ∃ f fd, FnG P w K mg base k f fd ps sp ∧ mg x = some (.ref f) ∧ PySem.W.keepIn K (.ref f) = true ∧ Binds K fd ps []
end
section
variable {P : Program} {w : World} {K : PySem.W.Frag} {mg : Str → Option Value} {base : Heap}
theorem DefAt.has {x : Str} {st : Stmt} {k : Nat} {ps : List Str} {sp : Sp} (D : DefAt K mg x st)
    (hb : ∀ (kV doc pm : Value) (an : Option Addr) (cdv ct : Value) (us : List Value), us.length = ps.length → bindArgs (PySem.W.fnOf x x (defArgs st) (defBody st) (defScope st) .none kV doc pm an cdv ct) ⟨us, []⟩ = pure (ps.zip us))
    (ok : ∀ f fd, Fun K x x st f fd → FnOk P w K mg base CX0 k f fd ps sp) : Has P w K mg base k x ps sp := by
  obtain ⟨f, fd, F, hm⟩ := D.ex
  exact ⟨f, fd, ok f fd F, hm, F.kp, F.binds hb⟩
theorem DefAt.hasG {x : Str} {st : Stmt} {k : Nat} {ps : List Str} {sp : Sp} (D : DefAt K mg x st)
    (hb : ∀ (kV doc pm : Value) (an : Option Addr) (cdv ct : Value) (us : List Value), us.length = ps.length → bindArgs (PySem.W.fnOf x x (defArgs st) (defBody st) (defScope st) .none kV doc pm an cdv ct) ⟨us, []⟩ = pure (ps.zip us))
    (ok : ∀ f fd, Fun K x x st f fd → FnG P w K mg base k f fd ps sp) : HasG P w K mg base k x ps sp := by
  obtain ⟨f, fd, F, hm⟩ := D.ex
  exact ⟨f, fd, ok f fd F, hm, F.kp, F.binds hb⟩
end
section
variable {X : Cx} {k : Nat} {x : Str} {ps : List Str} {sp : Sp} {p pos : Pos} {e : Expr} {es : List Expr} {t : TA}
/-- a call of a def that keeps a promise -/
theorem pe_h (h : Has X.prog X.w X.K X.mg X.base k x ps sp) (hr : Room k X.A) (ha : PA X (e :: es) t) (hg : Gl X x := by rfl) (hdb : (x == ("__debug__" : Str)) = false := by decide)
    (he : starEach (e :: es) X.env = (false, eval e X.env) :: starEach es X.env := by rfl) (hpl : (backTo pos (starEach es X.env)).any (·.1) = false := by rfl) :
    PE X (.Call (.Name x p) (e :: es) [] pos) (tCall sp [] E0 t) := by
  obtain ⟨f, fd, F, hm, hk, hb⟩ := h.ex
  exact pe_call F hr hg hm hk hb .nil pass0 ha hdb he hpl
/-- .. of one that wants that no repr runs around -/
theorem pe_g (h : HasG X.prog X.w X.K X.mg X.base k x ps sp) (hgd : X.A.guards = some []) (hr : Room k X.A) (ha : PA X (e :: es) t) (hg : Gl X x := by rfl) (hdb : (x == ("__debug__" : Str)) = false := by decide)
    (he : starEach (e :: es) X.env = (false, eval e X.env) :: starEach es X.env := by rfl) (hpl : (backTo pos (starEach es X.env)).any (·.1) = false := by rfl) :
    PE X (.Call (.Name x p) (e :: es) [] pos) (tCall sp [] E0 t) := by
  obtain ⟨f, fd, F, hm, hk, hb⟩ := h.ex
  refine ⟨fun pins s σ H Q I q => ?_⟩
  refine wpAny_Call_Name_kw (ld_glob I hg hm ?_ hdb)
  refine PySem.W.callWith_K (h₀ := X.base) I.ok.mod.kin hk (thn (ha.run pos pins s σ H _ I q) fun us s1 hq => ?_) he hpl
  obtain ⟨vs, H1, I1, r, q1⟩ := hq
  have q2 : sp vs H1 Q E0 := by rw [List.append_nil] at q1; exact q1
  refine ⟨I1.kIn, wpAny_call (codeAny_mono (F.go X.A X.stack s1 H1 us vs Q hgd hr I1.env0 ?_ r q2) fun rr s2 z => ?_)⟩
  · have := hb s1 us I1.kIn (by rw [List.append_nil, ← r.length]; exact F.len _ _ _ _ q2)
    rw [List.append_nil] at this; exact this
  · cases rr with
    | error er => exact z.elim
    | ok fl => cases fl with
      | ret u => exact I1.after z
      | next => exact z.elim
      | brk => exact z.elim
      | cont => exact z.elim
end
/-- a def of the text in such surroundings, by its body -/
theorem fun_g {P : Program} {w : World} {K : PySem.W.Frag} {mg : Str → Option Value} {base : Heap} {x qual : Str} {st : Stmt} {f : Addr} {fd : FuncData} {N ps : List Str} {k : Nat} {sp : Sp} (F : Fun K x qual st f fd) (S : FnScope N ps (defScope st))
    (ln : ∀ vs H Q E, sp vs H Q E → vs.length = ps.length)
    (hb : ∀ (cdv : Value) (A : Around) (out : List Env) (s : Shared) (H : Hp) (vs : List V) (Q : VK), A.guards = some [] → Room k (A.deeper (envOfC qual (defScope st) s.heap.objs.size f cdv)) → sp vs H Q E0 →
      ∃ t, PSs (cxOf CX0 P w K mg base N qual (defScope st) f cdv A out s H E0).nox (defBody st) t ∧ t { nx := fun _ H' => Q .non H', rt := Q } (start N vs) H) : FnG P w K mg base (k + 1) f fd ps sp := by
  obtain ⟨oc, od, kV, doc, pm, an, cdv, ct, osl, rfl, lk, hcd⟩ := F.ex
  refine ⟨ln, fun A out s H us vs Q hg hr e0 hbd r q => ?_⟩
  -- the promise at this very place, for the one surrounding A
  let sp1 : Sp := fun vs' H' Q' _ => vs' = vs ∧ H' = H ∧ (∀ v h, Q v h → Q' v h)
  have kin : K.In s.heap := e0.mod.kin.keeps fun b o e => (e0.bs b o e).1
  have lim : s.heap.NoLimit := e0.mod.nolimit.keeps fun b o e => (e0.bs b o e).1
  have hvl : vs.length = ps.length := ln _ _ _ _ q
  have kinds : ∀ y ∈ ps.zip us, (defScope st).names.lookup y.1 = some .local ∨ ((defScope st).names.lookup y.1 = some .cell ∧ ((cellsFrom (s.heap.objs.size + 1) (defScope st).names []).lookup y.1).isSome = true) := by
    intro y hy
    have hm : y.1 ∈ ps := (List.of_mem_zip (a := y.1) (b := y.2) hy).1
    rcases S.par _ hm with z | z
    · exact Or.inl z
    · exact Or.inr ⟨z, PySem.W.cellsFrom_some _ _ _ (Or.inl z)⟩
  refine codeAny_call_function hr.depth (kin _ _ lk) rfl S.co S.gen rfl (PySem.W.codeRec_of kin hcd) (hbd _ _ _ _ ?_)
  refine wpAny_newFunctionEnv_cells S.kind kinds fun env he s1 ic => ?_
  subst he
  refine ⟨lim.keeps ic.toInCall.keep, codeAny_func ?_⟩
  obtain ⟨t, ht, hq⟩ := hb cdv A out s H vs Q hg (hr.deeper _) q
  have J := inv_start (CX := CX0) (E := E0) S hr.hd e0 hvl r ic
  refine wpAny_mono (ht.nox.run [] s1 (start N vs) H _ J hq) (fun fl s2 z => ?_) fun er s2 z => z
  cases fl with
  | ret u => obtain ⟨v, σ2, H2, J2, rv, q2⟩ := z; exact ⟨v, H2, J2.os, J2.bare, J2.base, J2.hok, rv, q2⟩
  | next => obtain ⟨σ2, H2, J2, q2⟩ := z; exact ⟨V.non, H2, J2.os, J2.bare, J2.base, J2.hok, rfl, q2⟩
  | brk => obtain ⟨_, _, _, z2⟩ := z; exact z2.elim
  | cont => obtain ⟨_, _, _, z2⟩ := z; exact z2.elim
/-! ## built-ins that the layer lacks -/
section
variable {X : Cx}
theorem cr_lcm : CallR X (.builtin "math.lcm") (fun vs H Q => ∃ a b : Nat, vs = [.int a, .int b] ∧ a < 2 ^ 31 ∧ b < 2 ^ 31 ∧ Q (.int ((Nat.lcm a b : Nat) : Int)) H) := by
  intro pins s σ H vs us Q I r h
  obtain ⟨a, b, rfl, ha, hb, q⟩ := h
  obtain ⟨t, u, rfl⟩ := Vals.int2 r
  have hl : Nat.lcm a b ≤ a * b := Nat.div_le_self _ _
  have hp : a * b < 2 ^ 62 := by
    rcases Nat.eq_zero_or_pos b with z | z
    · subst z; simp
    · calc a * b < 2 ^ 31 * b := Nat.mul_lt_mul_of_pos_right ha z
        _ ≤ 2 ^ 31 * 2 ^ 31 := Nat.mul_le_mul_left _ (Nat.le_of_lt hb)
        _ = 2 ^ 62 := by decide
  refine PySem.W.mg_lcm_v (c := ((Nat.lcm a b : Nat) : Int)) (by omega) (by omega) (by simp) ?_ ⟨.int _, H, I.tok _, ⟨_, rfl⟩, q⟩
  have h3 : ((Nat.lcm a b : Nat) : Int).natAbs < 2 ^ 62 := by simp; omega
  have h4 : ((Nat.lcm a b : Nat) : Int).natAbs.log2 < 62 ∨ ((Nat.lcm a b : Nat) : Int).natAbs = 0 := by
    by_cases z : ((Nat.lcm a b : Nat) : Int).natAbs = 0
    · exact Or.inr z
    · exact Or.inl ((Nat.log2_lt z).mpr h3)
  rcases h4 with h4 | h4
  · exact Nat.lt_of_lt_of_le h4 (by decide)
  · rw [h4]; decide
/-- repr of data, where no repr runs around -/
theorem call_reprD (hg : X.A.guards = some []) (hu : X.A.units + 100 < cLine) : CallR X (.builtin "repr") (fun xs H Q => ∃ a d, xs = [.ref a] ∧ Dp X.K H (.ref a) d ∧ d.showable = true ∧ d.hasDict = false ∧ d.depth < 60 ∧ d.shown.length ≤ sizeLine ∧ Q (.str d.shown) H) := by
  intro pins s σ H xs us Q I r h
  obtain ⟨a, d, rfl, hd, h1, h2, h3, h4, q⟩ := h
  obtain ⟨u, rfl, ru⟩ := vals1 r
  obtain rfl : u = Value.ref a := ru
  obtain ⟨as, rd⟩ := Dp.reads I d _ _ hd rfl
  exact repr_of_reads' rd h1 (PyData.noDict_hsm h2) hg (by omega) (fun _ _ e => e) (fun h' u tk hk => ⟨.str d.shown, H, I.kept hk, ⟨u, rfl⟩, q⟩) h4
end
/-! ## the rules with the written part named (for what stands in a comprehension) -/
section
variable {X : Cx} {K : PySem.W.Frag}
theorem ixL (h : X.K = K) : IxR X (rIxL K) := by subst h; exact ix_list
theorem ixT (h : X.K = K) : IxR X (rIxT K) := by subst h; exact ix_tup
theorem inS (h : X.K = K) : OpR X (compareOp .In) (rIn K false) := by subst h; exact op_in_seq
theorem lenS (h : X.K = K) : CallR X (.builtin "len") (fun xs H Q => ∃ p ys, xs = [.ref p] ∧ (SqL K H p ys ∨ SqT K H p ys) ∧ Q (.int ys.length) H) := by subst h; exact call_len_seq
theorem pg_tupK {es : List Expr} {k : Nat} {t : TGs} {n : Nat} {pos : Pos} (hK : X.K = K) (hc : X.calm = true) (h : PGs X es t)
    (hn : (assignEach es X.env).length = n := by rfl) (hst : (assignEach es X.env).findIdx? (·.1) = none := by rfl) : PG X (.Tuple es k pos) (gTup K n t) := by subst hK; exact pg_tup hc h hn hst
end
theorem pe_ty {X : Cx} {x : Str} {pos : Pos} (n : String) (hm : X.mg x = none) (hg : Gl X x := by rfl) (hv : bootBuiltins x = some (.type n) := by decide +kernel) (hn : x ≠ "__name__" := by decide) (hd : (x == ("__debug__" : Str)) = false := by decide) :
    PE X (.Name x pos) (tC (.ty n)) := pe_bltn hg hm hv rfl hn hd
end Ts
namespace Ts
open PySem PySem.Spec PyProof.Rows L2
/-- the built-in names that the texts use -/
structure Blt0 (mg : Str → Option Value) : Prop where
  zlen : mg "len" = none
  zrange : mg "range" = none
  zabs : mg "abs" = none
  zdivmod : mg "divmod" = none
  zint : mg "int" = none
  zstr : mg "str" = none
  zbool : mg "bool" = none
  zrepr : mg "repr" = none
  zisinstance : mg "isinstance" = none
  ztuple : mg "tuple" = none
  zlist : mg "list" = none
  zdict : mg "dict" = none
  zzip : mg "zip" = none
  zsum : mg "sum" = none
  zall : mg "all" = none
  zmax : mg "max" = none
  zmin : mg "min" = none
  zsorted : mg "sorted" = none
  zset : mg "set" = none
  zenumerate : mg "enumerate" = none
structure Blt (mg : Str → Option Value) : Prop extends Blt0 mg where
  g_gcd : mg "gcd" = some (.builtin "math.gcd")
  g_lcm : mg "lcm" = some (.builtin "math.lcm")
instance {mg : Str → Option Value} : Coe (Blt mg) (Blt0 mg) := ⟨Blt.toBlt0⟩
/-! ## the law's own draws -/
/-- at b: where draws come from -/
def Bas (H : Hp) (b : Addr) : Prop := ∃ x y z : Int, H b = some (.lst [.int x, .int y, .int z])
/-- a drawn share -/
def GoodPart (m e p : Nat) : Prop := 1 ≤ e ∧ e ≤ p ∧ p ≤ m ∧ Nat.gcd e p = 1
/-! ## names -/
def IsTag (t : Str) : Prop := 1 ≤ t.length ∧ t.length ≤ 8 ∧ ∀ c ∈ t.cps.toList, 97 ≤ c ∧ c ≤ 122
/-! ## plain lists -/
theorem map_take_succ {α β : Type} (f : α → β) {l : List α} {i : Nat} {x : α} (h : l[i]? = some x) : (l.take (i + 1)).map f = (l.take i).map f ++ [f x] := by
  rw [List.take_add_one, h, List.map_append]; rfl
/-- what grows at a new place: what stood ahead of it stands -/
theorem Same.app {H0 H1 : Hp} {D : Addr} {o : HO} (h0 : H0 D = none) (s : Same H0 H1) : Same H0 (upd H1 D o) := fun a u e => by
  rw [upd_ne (ne_of_none e h0)]; exact s a u e
theorem abc_has {c : Nat} (h : 97 ≤ c ∧ c ≤ 122) : c ∈ (Str.ofString "abcdefghijklmnopqrstuvwxyz").cps.toList := by
  have e : (Str.ofString "abcdefghijklmnopqrstuvwxyz").cps.toList = (List.range 26).map (97 + ·) := by decide +kernel
  rw [e]
  exact List.mem_map.mpr ⟨c - 97, List.mem_range.mpr (by omega), by omega⟩
end Ts
namespace Ts
open PySem PySem.Spec PyProof.Rows L2
/-! ## works -/
abbrev Job := Str × Nat × Nat
def partD (e p : Nat) : PyData := .tuple [.int (e : Int), .int (p : Int)]
def jobD (j : Job) : PyData := .tuple [.str j.1, partD j.2.1 j.2.2]
def jobsD (js : List Job) : PyData := .list (js.map jobD)
/-- works with names of their own and shares up to d -/
structure Good (d : Nat) (js : List Job) : Prop where
  nd : (js.map (·.1)).Nodup
  tag : ∀ j ∈ js, IsTag j.1
  part : ∀ j ∈ js, GoodPart d j.2.1 j.2.2
/-! ## the text of a lot -/
def numS (n : Nat) : Str := Str.ofString (toString ((n : Nat) : Int))
def nlS : Str := Str.ofString "\n"
def rowS (j : Job) : Str := Str.ofString "work " ++ j.1 ++ Str.ofString " " ++ numS j.2.1 ++ Str.ofString "/" ++ numS j.2.2
def handsS (n : Nat) : Str := Str.ofString "hands " ++ numS n
def rowsOf (n : Nat) (js : List Job) : List Str := handsS n :: js.map rowS
def pageS (n : Nat) (js : List Job) : Str := Txt.join nlS (rowsOf n js)
def spPage (K : PySem.W.Frag) : Sp := fun vs H Q _ => ∃ (n : Nat) (p : Addr) (js : List Job), vs = [.int n, .ref p] ∧ n ≤ 1000 ∧ js.length ≤ 20 ∧ Good 1000 js ∧ Dp K H (.ref p) (jobsD js) ∧
  ∀ H' : Hp, Same H H' → Q (.str (pageS n js)) H'
theorem numS_tl (n : Nat) : TL.tl (numS n) = TL.numL n := TL.tl_num n
theorem numS_len {n : Nat} (h : n ≤ 1000) : (numS n).length ≤ 4 := by
  rw [TL.len_tl, numS_tl]
  exact TL.numL_len (by decide) (show n < 10 ^ 4 by omega)
theorem rowS_len {j : Job} (ht : IsTag j.1) (hp : GoodPart 1000 j.2.1 j.2.2) : (rowS j).length ≤ 23 := by
  obtain ⟨h1, h2, h3, h4⟩ := hp
  have a := numS_len (n := j.2.1) (by omega)
  have b := numS_len (n := j.2.2) (by omega)
  have c := ht.2.1
  have e1 : (Str.ofString "work ").length = 5 := by decide
  have e2 : (Str.ofString " ").length = 1 := by decide
  have e3 : (Str.ofString "/").length = 1 := by decide
  unfold rowS
  rw [Str.length_append, Str.length_append, Str.length_append, Str.length_append, Str.length_append, e1, e2, e3]
  omega
theorem Good.mono {d d' : Nat} {js : List Job} (g : Good d js) (h : d ≤ d') : Good d' js :=
  ⟨g.nd, g.tag, fun j hj => let ⟨a, b, c, e⟩ := g.part j hj; ⟨a, b, Nat.le_trans c h, e⟩⟩
/-- what an element of the data looks like -/
theorem job_at {K : PySem.W.Frag} {H : Hp} {xs : List V} {js : List Job} (h : DpAll K H xs (js.map jobD)) {i : Nat} {x : V} (e : xs[i]? = some x) :
    ∃ (j : Job) (a q : Addr), js[i]? = some j ∧ x = .ref a ∧ SqT K H a [.str j.1, .ref q] ∧ SqT K H q [.int (j.2.1 : Int), .int (j.2.2 : Int)] := by
  obtain ⟨d, hd, hv⟩ := h.get e
  rw [List.getElem?_map] at hd
  cases ej : js[i]? with
  | none => rw [ej] at hd; cases hd
  | some j =>
    rw [ej] at hd
    have : jobD j = d := Option.some.inj hd
    subst this
    obtain ⟨a, ys, rfl, ha, hy⟩ := hv.tuple
    obtain ⟨v, u, rfl, h1, h2⟩ := hy.two
    obtain ⟨q, zs, rfl, hq, hz⟩ := h2.tuple
    obtain ⟨s, t, rfl, h3, h4⟩ := hz.two
    rw [h1.str_eq] at ha
    rw [h3.int_eq, h4.int_eq] at hq
    exact ⟨j, a, q, rfl, rfl, ha, hq⟩
theorem _root_.L2.DpAll.snoc {K : PySem.W.Frag} {H : Hp} {vs : List V} {ds : List PyData} {v : V} {d : PyData} (h : DpAll K H vs ds) (g : Dp K H v d) : DpAll K H (vs ++ [v]) (ds ++ [d]) := h.append (.cons g .nil)
end Ts
namespace Ts
open PySem PySem.Spec PyProof.Rows L2
/-! ## tuple(what a dict gives) -/
section
variable {prog : Program} {w : World} {A : Around} {E : Value → Shared → Prop} {s : Shared} {T : String} {r d : Addr} {n : Nat} {C : Nat → Value → Prop} {OK : Heap → Prop}
theorem tuple_code {R : Value → Shared → Prop} (S : PySem.W.KdlSrc prog w T r d n C OK) (hh : A.handled = none) (ok : OK s.heap) (hn : n ≤ sizeLine)
    (h : ∀ (h' : Heap) (tk : Nat) (acc : Array Value), (∀ b o, s.heap.get? b = some o → h'.get? b = some o) → ItemsOf C acc n → R (.ref h'.objs.size) { s with heap := h'.push { cls := .type "tuple", data := .seq acc }, toks := tk }) :
    codeAny (model prog w) A (.call (.builtin "tuple.__new__") ⟨[.type "tuple", .ref r], []⟩) (wants R E) s := by
  refine codeAny_of_tree (show wpAny _ A.in1 (checkBuiltinCall "tuple.__new__" ⟨[.type "tuple", .ref r], []⟩ >>= fun _ => again (.builtin "tuple.__new__" ⟨[.type "tuple", .ref r], []⟩)) _ _ s from ?_)
  refine wpAny_bind (wpAny_of_eq (F.newCall_tuple_1 _) (wpAny_pure (And.intro (plainId_quiet F.plain_tuple_new _) (codeAny_builtin F.entry_tuple_new ?_))))
  rw [Around.under_plainId F.plain_tuple_new _]
  have e1 := sub_tuple_self
  have e2 := init_tuple_lookup
  have e3 := madeHere_tuple
  have tI := S.type s ok
  have n1 := S.notTuple
  have n2 := S.notList
  have hh1 : A.in1.handled = none := hh
  wp_walk using wpAny_typeOf tI, PySem.W.kdu_collect (A := A.in1) S hh1 ok hn
  intro h' tk acc hk hacc
  show wpAny _ _ ((Builtin.Tuple.tupleExact acc.toList.toArray).bind fun v => ret v) _ _ _
  unfold Builtin.Tuple.tupleExact
  have ea : acc.toList.toArray = acc := by simp
  refine wpAny_bind (wpAny_newObj_type (wpAny_pure ?_) (by rw [ea]; show acc.size ≤ sizeLine; rw [hacc.1]; exact hn))
  rw [ea]
  exact h h' tk acc hk hacc
theorem tuple_src {Q : Value → Shared → Prop} (S : PySem.W.KdlSrc prog w T r d n C OK) (hh : A.handled = none) (ok : OK s.heap) (hn : n ≤ sizeLine)
    (hQ : ∀ (h' : Heap) (tk : Nat) (acc : Array Value), (∀ b o, s.heap.get? b = some o → h'.get? b = some o) → ItemsOf C acc n → Q (.ref h'.objs.size) { s with heap := h'.push { cls := .type "tuple", data := .seq acc }, toks := tk }) :
    wpAny (model prog w) A (call (.type "tuple") [.ref r]) Q E s := by
  refine callType_codes (Q₁ := fun ob s1 => s1.TypeIs ob "tuple" ∧ Q ob s1) F.called_tuple (F.typeCall_tuple_1 _) F.entry_object_init
    (tuple_code (A := A.in1) S hh ok hn fun h' tk acc k1 k2 => And.intro ⟨_, Heap.get?_push_size _ rfl, rfl⟩ (hQ h' tk acc k1 k2)) fun ob s1 z => ?_
  exact And.intro z.1 (And.intro (F.args_object_init_2 ob _) (object_init_meets F.called_tuple.init.lookup F.called_tuple.made (by decide) prog w A.in1 _ s1 (And.intro z.1 (And.intro rfl z.2))))
end
section
variable {X : Cx} {p pos apos cpos : Pos} {e : Expr} {td : TE}
theorem call_tuple_dK (hc : X.calm = true) : CallR X (.type "tuple") (fun xs H Q => ∃ d kvs, xs = [.ref d] ∧ H d = some (.dK kvs) ∧ ∀ q ob, H q = none → ob.cls = .type "tuple" → ob.dict = none → Q (.ref q) (upd H q (.frz ob (.tup (kvs.map fun kv => kV kv.1))))) := by
  intro pins s σ H xs us Q I r h
  obtain ⟨d, kvs, rfl, hd, q⟩ := h
  obtain ⟨u, rfl, ru⟩ := vals1 r
  obtain rfl : u = Value.ref d := ru
  obtain ⟨z, lo, vs, rk, dd⟩ := (show ObjOk X.prog X.w H s.heap d (.dK kvs) from I.hok d _ hd)
  obtain ⟨ep, dat⟩ := dd.dictAt
  have hl : kvs.length = vs.length := Paired.length rk
  refine tuple_src (PySem.W.kdl_dict (knd := mixKind X.prog X.w) (kvs := vs) (ep := ep) lo) (I.ok.hd hc) dat (by omega) fun h' tk acc k1 k2 => ?_
  have J : Inv X pins σ H { s with heap := h', toks := tk } := I.kept k1
  have al : acc.toList.length = acc.size := by simp
  have rv : Vals (kvs.map fun kv => kV kv.1) acc.toList := by
    refine vals_of_at (by rw [List.length_map, al, k2.1, hl]) fun j x u h1 h2 => ?_
    obtain ⟨k, y, e1, e2⟩ := k2.2 j u (by rw [← Array.getElem?_toList]; exact h2)
    have e3 : (kvs.map (·.1))[j]? = some k := by rw [KV.keys rk, List.getElem?_map, e1]; rfl
    rw [List.getElem?_map] at e3 h1
    cases e4 : kvs[j]? with
    | none => rw [e4] at e3; cases e3
    | some kv =>
      rw [e4] at e3 h1
      have e5 : kv.1 = k := Option.some.inj e3
      have e6 : kV kv.1 = x := Option.some.inj h1
      rw [← e6, e5]
      exact keyIs_rel e2
  refine ⟨.ref h'.objs.size, upd H h'.objs.size (.frz { cls := .type "tuple", data := .seq acc } (.tup (kvs.map fun kv => kV kv.1))), J.laid (t' := tk) (fun b o z => Heap.get?_push_of_some _ z) (Nat.le_refl _) ⟨Heap.get?_push_size _ rfl, by rw [List.length_map]; exact z, acc.toList, rv, ?_⟩, rfl, q _ _ (J.hok.fresh (Nat.le_refl _)) rfl rfl⟩
  rw [Array.toArray_toList]
  exact ⟨_, Heap.get?_push_size _ rfl, rfl, _, rfl⟩
/-- tuple(e.values()) -/
def tTupVals (td : TE) : TE := fun σ H Q => td σ H fun x H1 => ∃ d kvs, x = .ref d ∧ H1 d = some (.dK kvs) ∧ ∀ q, H1 q = none → Q (.ref q) (upd H1 q (.tup (kvs.map (·.2))))
theorem pe_tupVals (hc : X.calm = true) (hg : Gl X "tuple") (hm : X.mg "tuple" = none) (he : PE X e td) (hbase : attributeBase e "values" X.env (eval e X.env) = eval e X.env := by rfl) (hline : (apos.endLine == cpos.line) = true := by rfl)
    (hse : starEach [Expr.Call (.Attribute e "values" apos) [] [] cpos] X.env = [(false, eval (Expr.Call (.Attribute e "values" apos) [] [] cpos) X.env)] := by rfl) :
    PE X (.Call (.Name "tuple" p) [.Call (.Attribute e "values" apos) [] [] cpos] [] pos) (tTupVals td) := by
  refine ⟨fun pins s σ H Q I h => ?_⟩
  refine Call_ (ld_blt I hg hm boot_tuple (PyProof.Rows.callWith_type1 (args_cons ?_ hse) hse))
  refine wpAny_Call_method0_late hbase hline (thn (he.run pins s σ H _ I h) fun v s1 ⟨x, H1, I1, r1, d, kvs, ex, hd, q⟩ => ?_)
  subst ex
  obtain rfl : v = Value.ref d := r1
  obtain ⟨z, hsys, vs, rel, dof⟩ := dk_of I1.hok hd
  obtain ⟨ep, dat⟩ := dof.dictAt
  obtain ⟨ob, es, ho, ex, hdat, hko, hpr, hnd⟩ := id dat
  refine ⟨"dict", "dict.values", F.plainAttrs_dict, F.slot_dict_values, F.type_dict_values, ⟨ob, ho, ex.1⟩, fun b e => ?_, Calls.callWith_builtin rfl (PySem.evalArgs_none ?_)⟩
  · cases e
    exact ⟨ob, ho, ex.2.1⟩
  refine call_meetsIn F.slot_dict_values ⟨ob, ho, ex.1⟩ F.entry_dict_values (F.args_dict_values_1 _) (meets_dict_values (mixKind X.prog X.w) d hsys) (And.intro ⟨vs, dof⟩ ?_)
  -- the view stands at the next address
  have I2 : Inv X pins σ H1 { s1 with heap := s1.heap.push { cls := .type "dict_values", data := .fields #[.ref d] } } := I1.kept (t' := s1.toks) fun b u z => Heap.get?_push_of_some _ z
  have dat2 : (s1.heap.push { cls := .type "dict_values", data := .fields #[.ref d] }).DictAt (mixKind X.prog X.w) d vs ep := dat.keep fun b u z => Heap.get?_push_of_some _ z
  have hl : kvs.length = vs.length := KV.length rel
  refine args_nil (tuple_src (PySem.W.kdl_values (knd := mixKind X.prog X.w) (kvs := vs) (ep := ep) (d := d) (r := s1.heap.objs.size)) (I.ok.hd hc) (And.intro ⟨_, Heap.get?_push_size _ rfl, rfl, rfl⟩ dat2) (by omega) fun h' tk acc k1 k2 => ?_)
  have J : Inv X pins σ H1 { s1 with heap := h', toks := tk } := I2.kept k1
  have al : acc.toList.length = acc.size := by simp
  have rv : Vals (kvs.map (·.2)) acc.toList := by
    refine vals_of_at (by rw [List.length_map, al, k2.1, hl]) fun j y u h1 h2 => ?_
    obtain ⟨k, e1⟩ := k2.2 j u (by rw [← Array.getElem?_toList]; exact h2)
    obtain ⟨y', e2, e3⟩ := KV.at' rel e1
    rw [List.getElem?_map, e2] at h1
    have e6 : y' = y := Option.some.inj h1
    rw [← e6]; exact e3
  refine ⟨.ref h'.objs.size, upd H1 h'.objs.size (.tup (kvs.map (·.2))), J.laid (t' := tk) (fun b o z => Heap.get?_push_of_some _ z) (Nat.le_refl _) ⟨by rw [List.length_map]; exact z, acc.toList, rv, ?_⟩, rfl, q _ (J.hok.fresh (Nat.le_refl _))⟩
  rw [Array.toArray_toList]
  exact ⟨_, Heap.get?_push_size _ rfl, rfl, _, rfl⟩
/-- all(a list of truths) -/
theorem call_allB (hc : X.calm = true) : CallR X (.builtin "all") (fun xs H Q => ∃ (a : Addr) (bs : List Bool), xs = [.ref a] ∧ SqL X.K H a (bs.map V.bl) ∧ Q (.bl (bs.all id)) H) := by
  intro pins s σ H xs us Q I r h
  obtain ⟨a, bs, rfl, hs, q⟩ := h
  obtain ⟨u, rfl, ru⟩ := vals1 r
  obtain rfl : u = Value.ref a := ru
  obtain ⟨its, rv, pl, hz⟩ := I.list hs
  have al : a < s.heap.objs.size := by obtain ⟨o, n, e, _⟩ := pl; exact Heap.lt_size e
  have len : its.length = bs.length := by rw [← rv.length, List.length_map]
  have W := Walks.list (prog := X.prog) (w := X.w) (A := X.A.in1) (I.ok.hd hc) s.heap.objs.size a (Nat.ne_of_lt al) its.toArray
  refine call_all_walk (wpAny_pyIter_list pl.isList ?_)
  refine ⟨s.heap.objs.size, _, _, its.toArray.size, _, _, fun i => bs.getD i true, rfl, W, (show Heap.IsListIter (s.heap.push _) s.heap.objs.size a 0 ∧ Heap.IsList (s.heap.push _) a its.toArray from And.intro ⟨_, Heap.get?_push_size _ rfl, rfl, rfl⟩ (pl.isList.push _)), ?_, fun h' tk hk => ?_⟩
  · intro i v s2 Q2 E2 hv hq
    have hv' : its[i]? = some v := by simpa using hv
    have hi : i < bs.length := by rw [← len]; exact (List.getElem?_eq_some_iff.mp hv').1
    obtain ⟨u2, e1, e2⟩ := rv.get (i := i) (x := V.bl bs[i]) (by rw [List.getElem?_map, List.getElem?_eq_getElem hi]; rfl)
    rw [hv'] at e1
    have e3 : v = u2 := Option.some.inj e1
    subst e3
    obtain rfl : v = Value.bool bs[i] := e2
    have e4 : bs.getD i true = bs[i] := by rw [List.getD_eq_getElem?_getD, List.getElem?_eq_getElem hi]; rfl
    have hq2 : Q2 (bs.getD i true) s2 := hq
    rw [e4] at hq2
    exact wpAny_truthy_bool hq2
  · have J : Inv X pins σ H { s with heap := h', toks := tk } := I.kept fun b o z => hk b o (fun m => absurd (Heap.lt_size z) (by rw [List.mem_singleton.mp m]; exact Nat.lt_irrefl _)) (Heap.get?_push_of_some _ z)
    refine ⟨.bl _, H, J, ?_, q⟩
    show Value.bool _ = Value.bool _
    congr 1
    have ls : its.toArray.size = bs.length := by simp [len]
    rw [ls, Bool.eq_iff_iff]
    simp only [List.all_eq_true, List.mem_range]
    constructor
    · intro z b hb
      obtain ⟨i, hi, e⟩ := List.mem_iff_getElem.mp hb
      have := z i hi
      rw [List.getD_eq_getElem?_getD, List.getElem?_eq_getElem hi] at this
      rw [← e]; exact this
    · intro z i hi
      rw [List.getD_eq_getElem?_getD, List.getElem?_eq_getElem hi]
      exact z _ (List.getElem_mem hi)
/-- first, *rest = a list that is not empty: rest is a new list -/
def gStar (K : PySem.W.Frag) (i j : Nat) : TG := fun v σ H Q => ∃ a x xs, v = .ref a ∧ SqL K H a (x :: xs) ∧ xs.length ≤ 16000 ∧ ∀ p, H p = none → Q ((σ.set i (some x)).set j (some (.ref p))) (upd H p (.lst xs))
theorem pg_star {i j : Nat} {x y : Str} {k : Nat} {px py ps tp : Pos} (hc : X.calm = true) (hN : X.N.Nodup) (hi : X.N[i]? = some x) (hj : X.N[j]? = some y) (hx : X.env.scope.names.lookup x = some .local) (hy : X.env.scope.names.lookup y = some .local)
    (he : assignEach [.Name x px, .Starred (.Name y py) ps] X.env = [(false, assign (.Name x px) X.env), (true, assign (.Name y py) X.env)] := by rfl) :
    PG X (.Tuple [.Name x px, .Starred (.Name y py) ps] k tp) (gStar X.K i j) := by
  refine ⟨fun pins s σ H v u Q I r hw => ?_⟩
  obtain ⟨a, z, zs, rfl, hs, hz, q⟩ := hw
  obtain rfl : u = Value.ref a := r
  obtain ⟨its, rv, pl, _⟩ := I.list hs
  cases rv with
  | @cons _ w1 _ ws r1 rr =>
    have wl : ws.length = zs.length := rr.length.symm
    have L : s.heap.IsList a (w1 :: ws).toArray := pl.isList
    have al : a < s.heap.objs.size := by obtain ⟨o, ho, _⟩ := L; exact Heap.lt_size ho
    rw [PyProof.Rows.assign_Tuple]
    refine wpAny_bind (wpAny_standAt ?_)
    unfold unpack
    rw [he]
    show wpAny _ _ (holding [Value.ref a] (unpackItems (.ref a) 2 (some 1)) >>= fun vs => assignInOrder [assign (.Name x px) X.env, assign (.Name y py) X.env] vs) _ _ s
    refine wpAny_bind (wpAny_holding ?_)
    unfold unpackItems
    refine wpAny_bind (show wpAny _ _ (notIterableAtAll (.ref a)) _ _ _ from ?_)
    unfold notIterableAtAll
    refine wpAny_bind (wpAny_specialOf L.typeIs slot_list_iter.lookup (wpAny_pure ?_))
    simp only [Bool.false_eq_true, if_false]
    refine wpAny_bind (wpAny_holding (wpAny_pyIter_list L (wpAny_bind (wpAny_holding ?_))))
    refine PySem.W.kun_draw (Nat.ne_of_lt al) 1 0 _ _ ⟨_, Heap.get?_push_size _ rfl, rfl, rfl⟩ (L.push _) (by simp) fun h1 t1 s1 => ?_
    have L1 : h1.IsList a (w1 :: ws).toArray := (L.push _).extBut s1.extBut (Nat.ne_of_lt al)
    have t1' : h1.IsListIter s.heap.objs.size a 1 := t1
    have l1 : s.heap.objs.size < h1.objs.size := by obtain ⟨o, ho, _⟩ := t1'; exact Heap.lt_size ho
    have l2 : a < h1.objs.size := by obtain ⟨o, ho, _⟩ := L1; exact Heap.lt_size ho
    have sz : (w1 :: ws).toArray.size = ws.length + 1 := by simp
    show wpAny _ _ (if ([w1] : List Value).length < 1 then _ else _) _ _ _
    rw [if_neg (show ¬ ([w1] : List Value).length < 1 from Nat.lt_irrefl 1)]
    have W := Walks.list (prog := X.prog) (w := X.w) (A := X.A.in1) (I.ok.hd hc) s.heap.objs.size a (Nat.ne_of_lt al) (w1 :: ws).toArray
    refine wpAny_bind (wpAny_holding (PySem.W.kun_collect (T := "list_iterator") (.inr (.inr (.inl rfl))) W (fun j u st => st.1.typeIs) (k := 1) (by rw [sz]; omega) (And.intro t1' L1) l1 l2 (fun h2 tk hk => ?_) (by rw [sz, sizeLine_eq]; omega)))
    have dr : (w1 :: ws).toArray.toList.drop 1 = ws := by simp
    rw [dr]
    show wpAny _ _ (if ws.length < 0 then _ else _) _ _ _
    rw [if_neg (Nat.not_lt_zero _)]
    show wpAny _ _ (newList (ws.take (ws.length - 0)) >>= fun d => pure ([w1] ++ [d] ++ ws.drop (ws.length - 0))) _ _ _
    rw [Nat.sub_zero, List.take_length, List.drop_length]
    have I1 : Inv X pins σ H { s with heap := h2, toks := tk } := I.kept fun b o e => hk b o (Nat.ne_of_lt (Heap.lt_size e)) (s1.extBut b o (Nat.ne_of_lt (Heap.lt_size e)) (Heap.get?_push_of_some _ e))
    refine wpAny_bind (show wpAny _ _ (newList ws) _ _ _ from wpAny_newObj_type (wpAny_pure ?_) (by show ws.toArray.size ≤ sizeLine; rw [List.size_toArray, sizeLine_eq]; omega))
    have hp := I1.hok.fresh (Nat.le_refl h2.objs.size)
    have I2 : Inv X pins σ (upd H h2.objs.size (.lst zs)) { s with heap := h2.push { cls := .type "list", data := .seq ws.toArray }, toks := tk } :=
      I1.laid (t' := tk) (fun b o e => Heap.get?_push_of_some _ e) (Nat.le_refl _) ⟨by rw [sizeLine_eq]; omega, ws, 0, rr, Heap.get?_push_size _ rfl⟩
    show wpAny _ _ (assignInOrder [assign (.Name x px) X.env, assign (.Name y py) X.env] [w1, Value.ref h2.objs.size]) _ _ _
    refine assignInOrder_cons (wpAny_assign_Name (store_ok I2 hN hi (.inl hx) r1 (fun s3 I3 => ?_) (.inr hx)))
    refine assignInOrder_cons (wpAny_assign_Name (store_ok (v := V.ref h2.objs.size) I3 hN hj (.inl hy) rfl (fun s4 I4 => assignInOrder_nil ⟨_, _, I4, q _ hp⟩) (.inr hy)))
end
end Ts
namespace Ts
open PySem PySem.Spec PyProof.Rows L2
/-! ## constants of the text -/
section
variable {X : Cx} {x y : Str} {i : Int} {pos : Pos}
theorem pe_gint (h : ∃ t, X.mg x = some (.int i t)) (hg : Gl X x := by rfl) (hd : (x == ("__debug__" : Str)) = false := by decide) : PE X (.Name x pos) (tC (.int i)) := by
  obtain ⟨t, h⟩ := h
  exact pe_glob hg h ⟨t, rfl⟩ hd
theorem pe_gstr (h : ∃ t, X.mg x = some (.str y t)) (hg : Gl X x := by rfl) (hd : (x == ("__debug__" : Str)) = false := by decide) : PE X (.Name x pos) (tC (.str y)) := by
  obtain ⟨t, h⟩ := h
  exact pe_glob hg h ⟨t, rfl⟩ hd
end
structure Cst (mg : Str → Option Value) : Prop where
  MOST_WORKS : ∃ t, mg "MOST_WORKS" = some (.int 6 t)
  MOST_HANDS : ∃ t, mg "MOST_HANDS" = some (.int 6 t)
  MOST_PERIOD : ∃ t, mg "MOST_PERIOD" = some (.int 16 t)
  LONGEST_NAME : ∃ t, mg "LONGEST_NAME" = some (.int 8 t)
  LETTERS : ∃ t, mg "LETTERS" = some (.str (Str.ofString "abcdefghijklmnopqrstuvwxyz") t)
/-! ## plain values -/
def spIsNumber : Sp := fun vs H Q _ => ∃ (v lo hi : Int), vs = [.int v, .int lo, .int hi] ∧ Q (.bl (decide (lo ≤ v ∧ v ≤ hi))) H
def spIsNumberFrom : Sp := fun vs H Q _ => ∃ (v lo : Int), vs = [.int v, .int lo] ∧ Q (.bl (decide (lo ≤ v))) H
def spIsName : Sp := fun vs H Q _ => ∃ (t : Str), vs = [.str t] ∧ IsTag t ∧ ∀ H', Same H H' → Q (.bl true) H'
def spIsShare : Sp := fun vs H Q _ => ∃ (q : Addr) (e p : Nat), vs = [.ref q] ∧ H q = some (.tup [.int (e : Int), .int (p : Int)]) ∧ GoodPart 16 e p ∧ Q (.bl true) H
/-! ## texts read -/
def spReadNumber : Sp := fun vs H Q _ => ∃ (n m : Nat), vs = [.str (numS n), .int m] ∧ 1 ≤ n ∧ n ≤ m ∧ m ≤ 1000 ∧ Q (.int n) H
def spReadHands : Sp := fun vs H Q _ => ∃ (n : Nat), vs = [.str (handsS n)] ∧ 1 ≤ n ∧ n ≤ 6 ∧ ∀ H', Same H H' → Q (.int n) H'
def spReadWork : Sp := fun vs H Q _ => ∃ (j : Job), vs = [.str (rowS j)] ∧ IsTag j.1 ∧ GoodPart 16 j.2.1 j.2.2 ∧
  ∀ (p q : Addr) H', Same H H' → H' p = some (.tup [.str j.1, .ref q]) → H' q = some (.tup [.int (j.2.1 : Int), .int (j.2.2 : Int)]) → Q (.ref p) H'
/-- a dict with the works' names and shares -/
def KvsOf (K : PySem.W.Frag) (H : Hp) (kvs : List (Key × V)) (js : List Job) : Prop := kvs.map (·.1) = js.map (fun j => (Sum.inr j.1 : Key)) ∧ DpAll K H (kvs.map (·.2)) (js.map fun j => partD j.2.1 j.2.2)
def spReadWorks (K : PySem.W.Frag) : Sp := fun vs H Q _ => ∃ (a : Addr) (js : List Job), vs = [.ref a] ∧ SqL K H a ((js.map rowS).map V.str) ∧ Good 16 js ∧ js.length ≤ 20 ∧
  ∀ (d : Addr) (kvs : List (Key × V)) (H' : Hp), Same H H' → H d = none → H' d = some (.dK kvs) → KvsOf K H' kvs js → Q (.ref d) H'
/-! ## totals -/
def spanN (js : List Job) : Nat := js.foldl (fun s j => Nat.lcm s j.2.2) 1
def partsN (js : List Job) (s : Nat) : Nat := (js.map fun j => j.2.1 * (s / j.2.2)).sum
def totTop (js : List Job) : Nat := partsN js (spanN js) / Nat.gcd (partsN js (spanN js)) (spanN js)
def totBot (js : List Job) : Nat := spanN js / Nat.gcd (partsN js (spanN js)) (spanN js)
def sharesD (js : List Job) : List PyData := js.map fun j => partD j.2.1 j.2.2
def namesD (js : List Job) : List PyData := js.map fun j => .str j.1
def spSpanOf (K : PySem.W.Frag) : Sp := fun vs H Q _ => ∃ (a : Addr) (xs : List V) (js : List Job), vs = [.ref a] ∧ SqT K H a xs ∧ DpAll K H xs (sharesD js) ∧ Good 16 js ∧ ∀ H', Same H H' → Q (.int (spanN js)) H'
def spTotalOf (K : PySem.W.Frag) : Sp := fun vs H Q _ => ∃ (a : Addr) (xs : List V) (js : List Job), vs = [.ref a, .int (spanN js)] ∧ SqT K H a xs ∧ DpAll K H xs (sharesD js) ∧ Good 16 js ∧ js.length ≤ 20 ∧
  ∀ (p : Addr) H', Same H H' → H p = none → H' p = some (.tup [.int (totTop js : Int), .int (totBot js : Int)]) → Q (.ref p) H'
theorem dvd_big {p : Nat} (h0 : 1 ≤ p) (h1 : p ≤ 16) : p ∣ 720720 := by
  have : ∀ q : Fin 17, 1 ≤ q.val → q.val ∣ 720720 := by decide +kernel
  exact this ⟨p, by omega⟩ h0
theorem span_dvd_go : ∀ (js : List Job) (s : Nat), s ∣ 720720 → (∀ j ∈ js, GoodPart 16 j.2.1 j.2.2) → js.foldl (fun s j => Nat.lcm s j.2.2) s ∣ 720720
  | [], s, h, _ => h
  | j :: js, s, h, g => by
    obtain ⟨a, b, c, _⟩ := g j List.mem_cons_self
    exact span_dvd_go js _ (Nat.lcm_dvd h (dvd_big (by omega) c)) fun k hk => g k (List.mem_cons_of_mem _ hk)
theorem span_dvd {js : List Job} (g : Good 16 js) : spanN js ∣ 720720 := span_dvd_go js 1 (Nat.one_dvd _) g.part
theorem span_pos {js : List Job} (g : Good 16 js) : 0 < spanN js := Nat.pos_of_dvd_of_pos (span_dvd g) (by decide)
theorem span_le {js : List Job} (g : Good 16 js) : spanN js ≤ 720720 := Nat.le_of_dvd (by decide) (span_dvd g)
theorem dvd_span_go : ∀ (js : List Job) (s : Nat), s ∣ js.foldl (fun s j => Nat.lcm s j.2.2) s ∧ ∀ j ∈ js, j.2.2 ∣ js.foldl (fun s j => Nat.lcm s j.2.2) s
  | [], s => ⟨Nat.dvd_refl _, by simp⟩
  | k :: js, s => by
    obtain ⟨h1, h2⟩ := dvd_span_go js (Nat.lcm s k.2.2)
    refine ⟨Nat.dvd_trans (Nat.dvd_lcm_left _ _) h1, fun j hj => ?_⟩
    rcases List.mem_cons.mp hj with rfl | hj
    · exact Nat.dvd_trans (Nat.dvd_lcm_right _ _) h1
    · exact h2 j hj
theorem dvd_span {js : List Job} {j : Job} (h : j ∈ js) : j.2.2 ∣ spanN js := (dvd_span_go js 1).2 j h
/-! ## a lot -/
def lotF (t : Str) (n : Int) (pn ps : Addr) (sp : Int) (pt : Addr) : List (Str × V) :=
  putF "_total" (.ref pt) (putF "_span" (.int sp) (putF "_shares" (.ref ps) (putF "_names" (.ref pn) (putF "_hands" (.int n) (putF "_text" (.str t) [])))))
/-- the names, in a tuple that has no dict -/
def NamesAt (H : Hp) (pn : Addr) (js : List Job) : Prop := ∃ ob : Obj, H pn = some (.frz ob (.tup (js.map fun j => V.str j.1))) ∧ ob.cls = .type "tuple" ∧ ob.dict = none
theorem NamesAt.mono {H H' : Hp} {pn : Addr} {js : List Job} (h : NamesAt H pn js) (s : Same H H') : NamesAt H' pn js := by
  obtain ⟨ob, h1, h2⟩ := h
  exact ⟨ob, s _ _ h1, h2⟩
theorem names_strs (js : List Job) : (js.map fun j => V.str j.1) = (js.map (·.1)).map V.str := by rw [List.map_map]; rfl
theorem NamesAt.seq {K : PySem.W.Frag} {H : Hp} {pn : Addr} {js : List Job} (h : NamesAt H pn js) : SqT K H pn ((js.map (·.1)).map V.str) := by
  obtain ⟨ob, h1, h2⟩ := h
  rw [names_strs] at h1
  exact .inl (.inr ⟨ob, h1⟩)
theorem NamesAt.dp {K : PySem.W.Frag} {H : Hp} {pn : Addr} {js : List Job} (h : NamesAt H pn js) : Dp K H (.ref pn) (.tuple (namesD js)) := by
  have ew : namesD js = (js.map (·.1)).map PyData.str := by unfold namesD; rw [List.map_map]; rfl
  rw [ew]
  exact .tup h.seq (DpAll.strs _)
structure LotAt (K : PySem.W.Frag) (C : Addr) (H : Hp) (a : Addr) (n : Nat) (js : List Job) : Prop where
  ex : ∃ dx pn ps pt, H a = some (.ins C dx (lotF (pageS n js) n pn ps (spanN js) pt)) ∧ NamesAt H pn js ∧ Dp K H (.ref ps) (.tuple (sharesD js)) ∧ Dp K H (.ref pt) (partD (totTop js) (totBot js))
theorem LotAt.mono {K : PySem.W.Frag} {C : Addr} {H H' : Hp} {a : Addr} {n : Nat} {js : List Job} (L : LotAt K C H a n js) (s : Same H H') : LotAt K C H' a n js := by
  obtain ⟨dx, pn, ps, pt, h1, h2, h3, h4⟩ := L.ex
  exact ⟨dx, pn, ps, pt, s _ _ h1, h2.mono s, h3.mono s, h4.mono s⟩
def spInit (K : PySem.W.Frag) (C : Addr) : Sp := fun vs H Q _ => ∃ (a dx : Addr) (n : Nat) (js : List Job), vs = [.ref a, .str (pageS n js)] ∧ H a = some (.ins C dx []) ∧ 1 ≤ n ∧ n ≤ 6 ∧ Good 16 js ∧ 0 < js.length ∧ js.length ≤ 6 ∧
  ∀ H', But a H H' → LotAt K C H' a n js → Q .non H'
/-! ## texts read back -/
theorem num_okI {z : Int} (h0 : 0 ≤ z) (h : z ≤ 1000) : z.natAbs.log2 < 1920 := by
  by_cases e : z.natAbs = 0
  · rw [e]; decide
  · exact Nat.lt_trans ((Nat.log2_lt e).mpr (show z.natAbs < 2 ^ 10 by omega)) (by decide)
theorem numS_inj {m n : Nat} (h : numS m = numS n) : m = n := by
  refine TL.numL_inj ?_
  rw [← numS_tl, ← numS_tl, h]
theorem numS_free {n s : Nat} (h : s < 48 ∨ 57 < s) : s ∉ TL.tl (numS n) := by
  rw [numS_tl]; exact TL.numL_free h
theorem sp_tl : TL.tl (Str.ofString " ") = [32] := by decide
theorem nl_tl : TL.tl nlS = [10] := by decide
theorem sl_tl : TL.tl (Str.ofString "/") = [47] := by decide
theorem tag_free {t : Str} (h : IsTag t) {s : Nat} (hs : s < 97) : s ∉ TL.tl t := fun m => by
  have := h.2.2 s m
  omega
theorem join_two (y a b : Str) : Txt.join y [a, b] = a ++ y ++ b := by
  rw [TL.join_eq]; rfl
theorem join_three (y a b c : Str) : Txt.join y [a, b, c] = a ++ y ++ (b ++ y ++ c) := by
  rw [TL.join_eq]; rfl
theorem hands_eq (n : Nat) : handsS n = Txt.join (Str.ofString " ") [Str.ofString "hands", numS n] := by
  rw [join_two]
  refine TL.ext_tl ?_
  unfold handsS
  rw [TL.tl_append, TL.tl_append, TL.tl_append]
  have e : TL.tl (Str.ofString "hands ") = TL.tl (Str.ofString "hands") ++ TL.tl (Str.ofString " ") := by decide
  rw [e]
theorem row_eq (j : Job) : rowS j = Txt.join (Str.ofString " ") [Str.ofString "work", j.1, Txt.join (Str.ofString "/") [numS j.2.1, numS j.2.2]] := by
  rw [join_three, join_two]
  refine TL.ext_tl ?_
  unfold rowS
  simp only [TL.tl_append, List.append_assoc]
  have e : TL.tl (Str.ofString "work ") = TL.tl (Str.ofString "work") ++ TL.tl (Str.ofString " ") := by decide
  rw [e, List.append_assoc]
theorem hands_split (n : Nat) : Txt.split (handsS n) (Str.ofString " ") = [Str.ofString "hands", numS n] := by
  rw [hands_eq]
  refine TL.split_join sp_tl (by decide +kernel) (by simp) fun p hp => ?_
  simp only [List.mem_cons, List.not_mem_nil, or_false] at hp
  rcases hp with rfl | rfl
  · decide
  · exact numS_free (by decide)
theorem part_split (e p : Nat) : Txt.split (Txt.join (Str.ofString "/") [numS e, numS p]) (Str.ofString "/") = [numS e, numS p] := by
  refine TL.split_join sl_tl (by decide +kernel) (by simp) fun q hq => ?_
  simp only [List.mem_cons, List.not_mem_nil, or_false] at hq
  rcases hq with rfl | rfl
  · exact numS_free (by decide)
  · exact numS_free (by decide)
theorem row_split {j : Job} (h : IsTag j.1) : Txt.split (rowS j) (Str.ofString " ") = [Str.ofString "work", j.1, Txt.join (Str.ofString "/") [numS j.2.1, numS j.2.2]] := by
  rw [row_eq]
  refine TL.split_join sp_tl (by decide +kernel) (by simp) fun q hq => ?_
  simp only [List.mem_cons, List.not_mem_nil, or_false] at hq
  rcases hq with rfl | rfl | rfl
  · decide
  · exact tag_free h (by decide)
  · rw [join_two, TL.tl_append, TL.tl_append]
    simp only [List.mem_append, not_or]
    exact ⟨⟨numS_free (by decide), by decide⟩, numS_free (by decide)⟩
theorem page_split {n : Nat} {js : List Job} (h : ∀ j ∈ js, IsTag j.1) : Txt.split (pageS n js) nlS = rowsOf n js := by
  unfold pageS
  refine TL.split_join nl_tl (by decide +kernel) (by unfold rowsOf; simp) fun q hq => ?_
  rcases List.mem_cons.mp hq with rfl | hq
  · unfold handsS
    rw [TL.tl_append]
    simp only [List.mem_append, not_or]
    exact ⟨by decide, numS_free (by decide)⟩
  · obtain ⟨j, hj, rfl⟩ := List.mem_map.mp hq
    unfold rowS
    simp only [TL.tl_append, List.mem_append, not_or]
    exact ⟨⟨⟨⟨⟨by decide, tag_free (h j hj) (by decide)⟩, by decide⟩, numS_free (by decide)⟩, by decide⟩, numS_free (by decide)⟩
/-! ## the class -/
theorem lot_hands {t : Str} {n sp : Int} {pn ps pt : Addr} : (lotF t n pn ps sp pt).lookup ("_hands" : Str) = some (.int n) := by
  unfold lotF; repeat (first | rw [lookup_putF, if_pos rfl] | rw [lookup_putF, if_neg (by decide +kernel)])
theorem lot_shares {t : Str} {n sp : Int} {pn ps pt : Addr} : (lotF t n pn ps sp pt).lookup ("_shares" : Str) = some (.ref ps) := by
  unfold lotF; repeat (first | rw [lookup_putF, if_pos rfl] | rw [lookup_putF, if_neg (by decide +kernel)])
theorem lot_span {t : Str} {n sp : Int} {pn ps pt : Addr} : (lotF t n pn ps sp pt).lookup ("_span" : Str) = some (.int sp) := by
  unfold lotF; repeat (first | rw [lookup_putF, if_pos rfl] | rw [lookup_putF, if_neg (by decide +kernel)])
theorem lot_total {t : Str} {n sp : Int} {pn ps pt : Addr} : (lotF t n pn ps sp pt).lookup ("_total" : Str) = some (.ref pt) := by
  unfold lotF; repeat (first | rw [lookup_putF, if_pos rfl] | rw [lookup_putF, if_neg (by decide +kernel)])
theorem putF_len (f : Str) (v : V) : ∀ fs : List (Str × V), (putF f v fs).length ≤ fs.length + 1
  | [] => Nat.le_refl _
  | (g, u) :: r => by
    unfold putF
    split
    · exact Nat.le_succ _
    · exact Nat.succ_le_succ (putF_len f v r)
/-- what the written part tells of the class at C -/
structure LotC (K : PySem.W.Frag) (mg : Str → Option Value) (C : Addr) : Prop where
  cl : Cls K C
  n1 : NoAttr K C "_text"
  n2 : NoAttr K C "_hands"
  n3 : NoAttr K C "_names"
  n4 : NoAttr K C "_shares"
  n5 : NoAttr K C "_span"
  n6 : NoAttr K C "_total"
  mgC : mg "Lot" = some (.ref C)
theorem joinL_len (S : List Nat) : ∀ ps : List (List Nat), (TL.joinL S ps).length ≤ (ps.map (·.length)).sum + ps.length * S.length
  | [] => Nat.zero_le _
  | [p] => by
    show p.length ≤ (p.length + 0) + 1 * S.length
    omega
  | p :: q :: r => by
    have ih := joinL_len S (q :: r)
    show (p ++ (S ++ TL.joinL S (q :: r))).length ≤ (p.length + ((q :: r).map (·.length)).sum) + ((q :: r).length + 1) * S.length
    rw [List.length_append, List.length_append, Nat.add_mul]
    omega
theorem rows_sum {js : List Job} (h : ∀ j ∈ js, (rowS j).length ≤ 23) : ((js.map rowS).map (·.length)).sum ≤ 23 * js.length := by
  induction js with
  | nil => exact Nat.le_refl _
  | cons j js ih =>
    have h1 := h j List.mem_cons_self
    have h2 := ih fun y hy => h y (List.mem_cons_of_mem _ hy)
    show (rowS j).length + ((js.map rowS).map (·.length)).sum ≤ 23 * (js.length + 1)
    omega
theorem page_len {n : Nat} {js : List Job} (hn : n ≤ 1000) (G : Good 1000 js) (hl : js.length ≤ 20) : (pageS n js).length + 2 ≤ 1000 := by
  unfold pageS
  rw [TL.join_eq, TL.len_tl, TL.tl_join, nl_tl]
  have a := joinL_len [10] ((rowsOf n js).map TL.tl)
  have e : ((rowsOf n js).map TL.tl).map (·.length) = (rowsOf n js).map (·.length) := by
    rw [List.map_map]
    exact List.map_congr_left fun x _ => (TL.len_tl x).symm
  rw [e] at a
  have b := rows_sum fun j hj => rowS_len (G.tag j hj) (G.part j hj)
  have c : (handsS n).length ≤ 10 := by
    have l6 : (Str.ofString "hands ").length = 6 := by decide
    have := numS_len hn
    unfold handsS; rw [Str.length_append, l6]; omega
  have d : ((rowsOf n js).map (·.length)).sum = (handsS n).length + ((js.map rowS).map (·.length)).sum := rfl
  have f : ((rowsOf n js).map TL.tl).length = js.length + 1 := by unfold rowsOf; rw [List.length_map, List.length_cons, List.length_map]
  rw [d, f] at a
  simp only [List.length_cons, List.length_nil] at a
  omega
end Ts
namespace Ts
open PySem PySem.Spec PyProof.Rows L2
/-! ## properties, objects made, names given -/
section
variable (P : Program) (w : World) (K : PySem.W.Frag) (mg : Str → Option Value) (base : Heap)
/-- the class at C gives under the name x what stands in the field fld -/
structure PropH (C : Addr) (x fld : Str) : Prop where
  ex : ∃ p g fd, PropOf K C x p g ∧ FnOk P w K mg base CX0 1 g fd ["self"] (getSp C fld) ∧ Binds K fd ["self"] []
/-- an own class by the promise of its __init__ -/
structure HasM (k : Nat) (C : Addr) (ps : List Str) (sp : Sp) : Prop where
  ex : ∃ f fd, Mk K C f ∧ FnOk P w K mg base CX0 k f fd ps sp ∧ Binds K fd ps []
end
section
variable {X : Cx} {k : Nat} {x fld : Str} {C : Addr} {ps : List Str} {sp : Sp} {p pos : Pos} {e : Expr} {es : List Expr} {kws : List Keyword} {t tk : TA} {ta : TE}
theorem pe_ph (h : PropH X.prog X.w X.K X.mg X.base C x fld) (c : Cls X.K C) (hr : Room 2 X.A) (he : PE X e ta) (hab : attributeBase e x X.env (eval e X.env) = eval e X.env := by rfl) :
    PE X (.Attribute e x pos) (tProp C (getSp C fld) [] E0 ta) := by
  obtain ⟨p, g, fd, hp, F, hb⟩ := h.ex
  exact pe_prop he c hp F hr hb .nil pass0 hab
theorem pe_hm (h : HasM X.prog X.w X.K X.mg X.base k C ps sp) (hm : X.mg x = some (.ref C)) (hr : Room (k + 1) X.A) (ha : PA X (e :: es) t) (hg : Gl X x := by rfl) (hdb : (x == ("__debug__" : Str)) = false := by decide)
    (he : starEach (e :: es) X.env = (false, eval e X.env) :: starEach es X.env := by rfl) (hpl : (backTo pos (starEach es X.env)).any (·.1) = false := by rfl) :
    PE X (.Call (.Name x p) (e :: es) [] pos) (tMake C sp [] E0 t) := by
  obtain ⟨f, fd, M, F, hb⟩ := h.ex
  exact pe_make M F hr hg hm hb .nil pass0 ha hdb he hpl
end
/-! ## lots -/
/-- what isinstance asks of the class -/
structure LotI (K : PySem.W.Frag) (C : Addr) : Prop where
  ha : PySem.W.findIn K (.ref C) "__class__" = some (some (.builtin "object.__class__"))
  hn : PySem.W.specialIn K (.builtin "object.__class__") "__get__" = some (some (.builtin "getset_descriptor.__get__"))
  htk : PySem.W.takesIn K (.builtin "object.__class__") = some true
  hm : PySem.W.mroIn K C (.type "object") = some true
theorem kit_self {K : PySem.W.Frag} {C : Addr} : PySem.W.kitOne K (.ref C) (.ref C) = some true := by
  unfold PySem.W.kitOne
  rw [if_pos (by simp)]
theorem pe_gref {X : Cx} {x : Str} {C : Addr} {pos : Pos} (h : X.mg x = some (.ref C)) (hg : Gl X x := by rfl) (hd : (x == ("__debug__" : Str)) = false := by decide) : PE X (.Name x pos) (tC (.ref C)) :=
  pe_glob (v := V.ref C) hg h rfl hd
theorem bot_le {js : List Job} (g : Good 16 js) : totBot js ≤ 720720 := Nat.le_trans (Nat.div_le_self _ _) (span_le g)
/-- a property's reading at a lot -/
theorem lot_get {C a : Addr} {H : Hp} {fld : Str} {dx : Addr} {fs : List (Str × V)} {v : V} {Q : VK} (h : H a = some (.ins C dx fs)) (l : fs.lookup fld = some v) (q : Q v H) :
    ∃ a' dx fs, V.ref a = .ref a' ∧ H a' = some (.ins C dx fs) ∧ getSp C fld [.ref a'] H Q E0 :=
  ⟨a, dx, fs, rfl, h, a, dx, fs, v, rfl, h, l, q⟩
end Ts
namespace Ts
open PySem PySem.Spec PyProof.Rows L2
def spCheck (C : Addr) : Sp := fun vs H Q _ => ∃ (a dx : Addr) (fs : List (Str × V)), vs = [.ref a] ∧ H a = some (.ins C dx fs) ∧ Q .non H
def spFits (K : PySem.W.Frag) (C : Addr) : Sp := fun vs H Q _ => ∃ (a : Addr) (n : Nat) (js : List Job), vs = [.ref a] ∧ LotAt K C H a n js ∧ n ≤ 6 ∧ Good 16 js ∧ Q (.bl (decide ((totTop js : Int) ≤ (n : Int) * (totBot js : Int)))) H
end Ts
namespace Ts
open PySem PySem.Spec PyProof.Rows L2
/-! ## what the laws reckon -/
theorem span_step {js : List Job} {i : Nat} {j : Job} (h : js[i]? = some j) : spanN (js.take (i + 1)) = Nat.lcm (spanN (js.take i)) j.2.2 := by
  unfold spanN
  rw [List.take_add_one, h, List.foldl_append]; rfl
theorem Good.take {d i : Nat} {js : List Job} (G : Good d js) : Good d (js.take i) :=
  ⟨by rw [List.map_take]; exact G.nd.sublist (List.take_sublist _ _), fun k hk => G.tag k (List.mem_of_mem_take hk), fun k hk => G.part k (List.mem_of_mem_take hk)⟩
theorem span_of_all_go : ∀ (js : List Job) (s k : Nat), s ∣ k → (∀ j ∈ js, j.2.2 ∣ k) → js.foldl (fun s j => Nat.lcm s j.2.2) s ∣ k
  | [], s, k, h, _ => h
  | j :: js, s, k, h, g => span_of_all_go js _ k (Nat.lcm_dvd h (g j List.mem_cons_self)) fun x hx => g x (List.mem_cons_of_mem _ hx)
theorem span_of_all {js : List Job} {k : Nat} (h : ∀ j ∈ js, j.2.2 ∣ k) : spanN js ∣ k := span_of_all_go js 1 k (Nat.one_dvd _) h
/-- the sum in parts of a great common bottom -/
def bigN (js : List Job) : Nat := (js.map fun j => j.2.1 * (720720 / j.2.2)).sum
theorem big_parts {js : List Job} (G : Good 16 js) : bigN js = partsN js (spanN js) * (720720 / spanN js) := by
  have key : ∀ l : List Job, (∀ j ∈ l, j ∈ js) → (l.map fun j => j.2.1 * (720720 / j.2.2)).sum = (l.map fun j => j.2.1 * (spanN js / j.2.2)).sum * (720720 / spanN js) := by
    intro l
    induction l with
    | nil => intro _; simp
    | cons j l ih =>
      intro h
      have hj := h j List.mem_cons_self
      obtain ⟨a, b, c, _⟩ := G.part j hj
      have d1 := dvd_span hj
      have d2 := span_dvd G
      rw [List.map_cons, List.map_cons, List.sum_cons, List.sum_cons, ih fun x hx => h x (List.mem_cons_of_mem _ hx), Nat.add_mul, Nat.mul_assoc]
      congr 2
      obtain ⟨u, hu⟩ := d1
      obtain ⟨v, hv⟩ := d2
      have hp : 0 < j.2.2 := by omega
      have hs : 0 < spanN js := span_pos G
      have e1 : spanN js / j.2.2 = u := by rw [hu, Nat.mul_div_cancel_left _ hp]
      have e2 : 720720 / spanN js = v := by rw [hv, Nat.mul_div_cancel_left _ hs]
      have e3 : 720720 / j.2.2 = u * v := by
        rw [hv, hu, Nat.mul_assoc, Nat.mul_div_cancel_left _ hp]
      rw [e1, e2, e3]
  exact key js fun _ h => h
theorem big_low {js : List Job} (G : Good 16 js) : bigN js / Nat.gcd (bigN js) 720720 = totTop js ∧ 720720 / Nat.gcd (bigN js) 720720 = totBot js := by
  have d2 := span_dvd G
  have hs := span_pos G
  have hk : 0 < 720720 / spanN js := Nat.div_pos (span_le G) hs
  have eN : 720720 = spanN js * (720720 / spanN js) := (Nat.mul_div_cancel' d2).symm
  have e := big_parts G
  have eg : Nat.gcd (bigN js) 720720 = Nat.gcd (partsN js (spanN js)) (spanN js) * (720720 / spanN js) := by
    rw [e]
    conv => lhs; rhs; rw [eN]
    exact Nat.gcd_mul_right _ _ _
  rw [eg]
  refine ⟨?_, ?_⟩
  · rw [e]; exact Nat.mul_div_mul_right _ _ hk
  · conv => lhs; lhs; rw [eN]
    exact Nat.mul_div_mul_right _ _ hk
theorem big_le {js : List Job} (G : Good 16 js) (hl : js.length ≤ 6) : bigN js ≤ 6 * 720720 := by
  have key : ∀ l : List Job, (∀ j ∈ l, j ∈ js) → (l.map fun j => j.2.1 * (720720 / j.2.2)).sum ≤ l.length * 720720 := by
    intro l
    induction l with
    | nil => intro _; exact Nat.le_refl _
    | cons j l ih =>
      intro h
      obtain ⟨a, b, c, _⟩ := G.part j (h j List.mem_cons_self)
      have h1 := ih fun x hx => h x (List.mem_cons_of_mem _ hx)
      have h2 : j.2.1 * (720720 / j.2.2) ≤ 720720 := Nat.le_trans (Nat.mul_le_mul_right _ b) (Nat.mul_div_le _ _)
      rw [List.map_cons, List.sum_cons, List.length_cons]
      omega
  exact Nat.le_trans (key js fun _ h => h) (Nat.mul_le_mul_right _ hl)
theorem top_le {js : List Job} (G : Good 16 js) (hl : js.length ≤ 6) : totTop js ≤ 6 * 720720 := by
  rw [← (big_low G).1]
  exact Nat.le_trans (Nat.div_le_self _ _) (big_le G hl)
/-! ## going up to the least common one -/
def spLaw (K : PySem.W.Frag) : Sp := fun vs H Q _ => ∃ (a : Addr) (ns : List Int), vs = [.ref a] ∧ SqL K H a (ns.map V.int) ∧ ns.length ≤ 63 ∧ ∀ H', Q (.bl true) H'
/-! ## how long a text is -/
theorem shown_int {n : Nat} (h : n < 10 ^ 10) : (PyData.int (n : Int)).shown.length ≤ 10 := by
  show (numS n).length ≤ 10
  rw [TL.len_tl, numS_tl]
  exact TL.numL_len (by decide) h
theorem show_int {n : Nat} (h : n < 10 ^ 10) : (PyData.int (n : Int)).showable = true := by
  show decide (((n : Nat) : Int).natAbs.log2 < 1920) = true
  refine decide_eq_true ?_
  have e : ((n : Nat) : Int).natAbs = n := by simp
  rw [e]
  by_cases z : n = 0
  · subst z; decide
  · exact Nat.lt_trans ((Nat.log2_lt z).mpr (show n < 2 ^ 40 from Nat.lt_trans h (by decide))) (by decide)
/-! ## what does not divide -/
theorem hu100 {A : Around} {k : Nat} (hr : Room k A) : A.units + 100 < cLine := by have := hr.un; omega
theorem hu64 {A : Around} {k : Nat} (hr : Room k A) : A.units + 64 < cLine := by have := hr.un; omega
end Ts
namespace Ts
open PySem PySem.Spec PyProof.Rows L2
/-! ## the law is called, no repr around -/
/-- of the heap nothing is told but the script -/
def tells (yes : Bool) (a : Addr) (vs : List Value) (ns : List Int) : Hp := fun c =>
  if c = a then (if yes = true then some (.frz { cls := .type "list", data := .seq vs.toArray } (.lst (ns.map V.int))) else none) else none
theorem tells_at {yes : Bool} {a : Addr} {vs : List Value} {ns : List Int} {c : Addr} {u : HO} (h : tells yes a vs ns c = some u) :
    c = a ∧ yes = true ∧ u = .frz { cls := .type "list", data := .seq vs.toArray } (.lst (ns.map V.int)) := by
  unfold tells at h
  split at h
  · split at h
    · exact ⟨by assumption, by assumption, (Option.some.inj h).symm⟩
    · cases h
  · cases h
theorem end_G {P : Program} {w : World} {K : PySem.W.Frag} {mg mb : Str → Option Value} {k : Nat} {fa a : Addr} {fd : FuncData} {x : Str} {sp : Sp} {t : Shared} {vs : List Value} {ns : List Int}
    (inK : K.In t.heap) (nsM : t.heap.Ns mainGlobals mg) (nsB : t.heap.Ns builtinsNs mb) (boot : ∀ y : Str, y ≠ "__name__" → mb y = bootBuiltins y) (lim : t.heap.NoLimit) (gens : t.gens = #[])
    (at_ : t.heap.get? a = some { cls := .type "list", data := .seq vs.toArray }) (allInt : IntsAre vs ns) (few : ns.length ≤ sizeLine) (room : Room k callerA)
    (G : ∀ base : Heap, K.In base → base.Ns mainGlobals mg → FnG P w K mg base k fa fd [x] sp) (bind : ∀ (s : Shared) (u : Value), BindsTo s fd ⟨[u], []⟩ [(x, u)])
    (good : ∀ H : Hp, SqL K H a (ns.map V.int) → sp [.ref a] H (fun v _ => v = .bl true) E0) :
    codeAny (model P w) callerA (.call (.ref fa) ⟨[.ref a], []⟩) (fun r z => r = .ok (.ret (.bool true)) ∧ OldK t.heap z.heap ∧ z.os = t.os ∧ AllBare z.gens) t := by
  have vals := vals_ints allInt
  -- what is told
  generalize hy : (K.lookup a).isNone = yes
  have H0 : ∃ H, H = tells yes a vs ns := ⟨_, rfl⟩
  obtain ⟨H, eH⟩ := H0
  have told : ∀ {c : Addr} {u : HO}, H c = some u → c = a ∧ yes = true ∧ u = .frz { cls := .type "list", data := .seq vs.toArray } (.lst (ns.map V.int)) := fun h => tells_at (by rw [← eH]; exact h)
  have okH : HOk P w H t.heap := fun c u h => by
    obtain ⟨rfl, _, rfl⟩ := told h
    exact ⟨at_, by rw [List.length_map]; exact few, vs, _, vals, at_⟩
  have seqH : SqL K H a (ns.map V.int) := by
    cases e : K.lookup a with
    | none =>
      have yt : yes = true := by rw [← hy, e]; rfl
      refine .inl (.inr ⟨{ cls := .type "list", data := .seq vs.toArray }, ?_⟩)
      rw [eH]; unfold tells
      rw [if_pos rfl, if_pos yt]
    | some o =>
      have eo := inK a o e
      rw [at_] at eo
      cases eo
      exact .inr ⟨_, vs.toArray, _, e, rfl, rfl, rfl, by rw [List.size_toArray, allInt.length]; exact few, by simpa using vals⟩
  -- the heap without it
  have still : ∀ {c : Addr} {o : Obj}, t.heap.get? c = some o → H c = none → (hidT t.heap H).get? c = some o := fun e n => hidT_get e n
  have dicts : ∀ {c : Addr} {m : Str → Option Value}, t.heap.Ns c m → (hidT t.heap H).Ns c m := by
    rintro c m ⟨o, es, ep, e, d, r⟩
    refine ⟨o, es, ep, still e ?_, d, r⟩
    cases hc : H c with
    | none => rfl
    | some u =>
      obtain ⟨rfl, _, _⟩ := told hc
      rw [at_] at e
      cases e
      exact nomatch (show Data.seq vs.toArray _ = Data.dict es ep from d)
  have kept : K.In (hidT t.heap H) := fun c o e => still (inK c o e) (by
    cases hc : H c with
    | none => rfl
    | some u =>
      obtain ⟨rfl, h2, _⟩ := told hc
      rw [← hy, e] at h2; cases h2)
  have limits : (hidT t.heap H).NoLimit := by
    obtain ⟨mc, h1, h2⟩ := lim
    exact ⟨mc, dicts h1, h2⟩
  have start0 : Env0 P w K mg (hidT t.heap H) callerA [] t H :=
    { frames := rfl, mod := ⟨kept, dicts nsM, ⟨mb, dicts nsB, boot⟩, limits⟩, bs := fun c o e => of_hidT e, bsz := Nat.le_of_eq (hidT_size _ _), funs := trivial, frf := fun c hc => absurd (show c ∈ ([] : List Addr) from hc) (by simp), hok := okH, bare := .of_eq gens }
  refine codeAny_mono ((G _ kept (dicts nsM)).go callerA [] t H [.ref a] [.ref a] _ rfl room start0 (bind t (.ref a)) (.cons rfl .nil) (good H seqH)) fun r z h => ?_
  cases r with
  | error e => exact h.elim
  | ok fl => cases fl with
    | next => exact h.elim
    | brk => exact h.elim
    | cont => exact h.elim
    | ret u =>
      obtain ⟨v, H2, g1, g2, un, ok2, rv, ev⟩ := h
      have ev2 : v = .bl true := ev
      subst ev2
      obtain rfl : u = Value.bool true := rv
      refine ⟨rfl, OldK.of_keep fun c o e => ?_, g1, g2⟩
      cases hc : H c with
      | none => exact un.keep c o e hc (fun m => absurd (show c ∈ ([] : List Addr) from m) (by simp)) (by simp)
      | some u =>
        obtain ⟨rfl, _, rfl⟩ := told hc
        obtain ⟨e2, _⟩ := ok2 _ _ (un.frzs _ _ _ hc)
        rw [at_] at e
        rw [← Option.some.inj e]
        exact e2
end Ts
namespace Ts
open PySem PySem.Spec PyProof.Rows L2
/-! ## what the top has left -/
theorem prop_mk {P : Program} {w : World} {K : PySem.W.Frag} {mg : Str → Option Value} {base : Heap} {x qual fld : Str} {st : Stmt} {C p g : Addr} {fd : FuncData} {p1 p2 p3 : Pos} (F : Fun K x qual st g fd) (S : FnScope ["self"] ["self"] (defScope st))
    (body : defBody st = [.Return (some (.Attribute (.Name "self" p1) fld p2)) p3]) (c : Cls K C) (n : NoAttr K C fld) (pp : PropOf K C x p g)
    (hb : ∀ (kV doc pm : Value) (an : Option Addr) (cdv ct : Value) (us : List Value), us.length = 1 → bindArgs (PySem.W.fnOf x qual (defArgs st) (defBody st) (defScope st) .none kV doc pm an cdv ct) ⟨us, []⟩ = pure ((["self"] : List Str).zip us)) :
    PropH P w K mg base C x fld := by
  have bb := F.binds (ps := ["self"]) hb
  obtain ⟨oc, od, kV, doc, pm, an, cdv, ct, osl, rfl, lk, hcd⟩ := F.ex
  exact ⟨p, g, _, pp, fn_getter (k := 0) lk hcd S rfl body c n, bb⟩
end Ts
namespace Ts
open PySem PySem.Spec PyProof.Rows L2
/-! ## turns -/
/-- the two numbers of a share -/
theorem part_at {K : PySem.W.Frag} {H : Hp} {v : V} {e p : Nat} (h : Dp K H v (partD e p)) : ∃ a, v = .ref a ∧ SqT K H a [.int (e : Int), .int (p : Int)] := by
  obtain ⟨a, xs, rfl, hS, hA⟩ := h.tuple
  obtain ⟨v, u, rfl, g1, g2⟩ := hA.two
  cases g1.int_eq
  cases g2.int_eq
  exact ⟨a, rfl, hS⟩
end Ts
namespace Ts
open PySem PySem.Spec PyProof.Rows L2
/-! ## names given in another order -/
structure HasQ (P : Program) (w : World) (K : PySem.W.Frag) (mg : Str → Option Value) (base : Heap) (k : Nat) (x : Str) (ps ks : List Str) (turned : {α : Type} → List α → List α) (sp : Sp) : Prop where
  ex : ∃ f fd, FnOk P w K mg base CX0 k f fd ps sp ∧ mg x = some (.ref f) ∧ PySem.W.keepIn K (.ref f) = true ∧ ∀ (s : Shared) (ws : List Value), ws.length = ks.length → BindsTo s fd ⟨[], ks.zip ws⟩ (ps.zip (turned ws))
  rel : ∀ {vs : List V} {us : List Value}, Vals vs us → Vals (turned vs) (turned us)
theorem DefAt.hasQ {P : Program} {w : World} {K : PySem.W.Frag} {mg : Str → Option Value} {base : Heap} {x : Str} {st : Stmt} {k : Nat} {ps : List Str} {sp : Sp} (D : DefAt K mg x st) (ks : List Str) (turned : {α : Type} → List α → List α)
    (rel : ∀ {vs : List V} {us : List Value}, Vals vs us → Vals (turned vs) (turned us))
    (hb : ∀ (kV doc pm : Value) (an : Option Addr) (cdv ct : Value) (ws : List Value), ws.length = ks.length → bindArgs (PySem.W.fnOf x x (defArgs st) (defBody st) (defScope st) .none kV doc pm an cdv ct) ⟨[], ks.zip ws⟩ = pure (ps.zip (turned ws)))
    (ok : ∀ f fd, Fun K x x st f fd → FnOk P w K mg base CX0 k f fd ps sp) : HasQ P w K mg base k x ps ks turned sp := by
  obtain ⟨f, fd, F, hm⟩ := D.ex
  refine ⟨⟨f, fd, ok f fd F, hm, F.kp, fun s ws hl => ?_⟩, rel⟩
  obtain ⟨oc, od, kV, doc, pm, an, cdv, ct, osl, rfl, lk, hcd⟩ := F.ex
  exact .of_eq (hb kV doc pm an cdv ct ws hl)
def tCallQ (sp : Sp) (m : Nat) (turned : List V → List V) (tk : TA) : TE := fun σ H Q => tk σ H fun zs H2 => zs.length = m ∧ sp (turned zs) H2 Q E0
theorem pe_hq {X : Cx} {k : Nat} {x : Str} {ps ks : List Str} {turned : {α : Type} → List α → List α} {sp : Sp} {p pos : Pos} {kws : List Keyword} {tk : TA} (h : HasQ X.prog X.w X.K X.mg X.base k x ps ks turned sp) (hr : Room k X.A) (hkw : PK X kws tk) (hg : Gl X x := by rfl)
    (hdb : (x == ("__debug__" : Str)) = false := by decide) (hall : (backToKw pos (keywordEach kws X.env)).all (·.1.isSome) = true := by rfl) (hks : (backToKw pos (keywordEach kws X.env)).filterMap (·.1) = ks := by rfl)
    (hpl : ((backTo pos (starEach [] X.env)).any (·.1) || (backToKw pos (keywordEach kws X.env)).any (·.1.isNone)) = false := by rfl) :
    PE X (.Call (.Name x p) [] kws pos) (tCallQ sp ks.length turned tk) := by
  obtain ⟨f, fd, F, hm, hk, hb⟩ := h.ex
  refine ⟨fun pins s σ H Q I q0 => ?_⟩
  refine wpAny_Call_Name_kw (ld_glob I hg hm ?_ hdb)
  refine PySem.W.callWith_KW0 (h₀ := X.base) I.ok.mod.kin hk hall ?_ hpl
  refine thn (hkw.run pos pins s σ H _ I q0) fun ws s2 ⟨zs, H2, I2, rz, l2, q2⟩ => ⟨I2.kIn, ?_⟩
  rw [hks]
  have lw : ws.length = ks.length := by rw [← rz.length]; exact l2
  refine wpAny_call (codeAny_mono (F.run X.A X.stack s2 H2 ⟨[], ks.zip ws⟩ (turned ws) (turned zs) Q E0 hr I2.env0 (hb s2 ws lw) (h.rel rz) q2) fun r s' hq => ?_)
  cases r with
  | error er => exact hq.elim
  | ok fl => cases fl with
    | ret u => exact I2.after hq
    | next => exact hq.elim
    | brk => exact hq.elim
    | cont => exact hq.elim
/-- from behind -/
def back {α : Type} (l : List α) : List α := l.reverse
theorem vals_back : ∀ {vs : List V} {us : List Value}, Vals vs us → Vals (back vs) (back us)
  | _, _, .nil => .nil
  | _, _, .cons r h => by
    unfold back
    rw [List.reverse_cons, List.reverse_cons]
    exact (vals_back h).append (.cons r .nil)
end Ts
namespace Ts
open PySem PySem.Spec PyProof.Rows L2 L2H LamX
/-! ## try .. except (A, B, C) as e -/
theorem ff_keep {h h' base : Heap} (k : ∀ (b : Addr) (o : Obj), h.get? b = some o → h'.get? b = some o) : ∀ {l : List Env}, h.FunFrames base l → h'.FunFrames base l
  | [], _ => trivial
  | env :: rest, z => by
    obtain ⟨z1, ⟨L, o, z2, z3, z4, z5⟩, z6⟩ := z
    exact ⟨z1, ⟨L, o, z2, z3, k _ _ z4, z5⟩, ff_keep k z6⟩
theorem fly_keep {base h h' : Heap} {l : List Env} {e : Addr} {Z : Obj → Prop} (k : ∀ (b : Addr) (o : Obj), h.get? b = some o → h'.get? b = some o) (z : HandSPX.FlyingZ base l e Z h) : HandSPX.FlyingZ base l e Z h' := by
  obtain ⟨z1, z2, z3, oe, vs, T, oT, ts, t1, t2, t3, t4, t5, t6, t7, t8, t9⟩ := z
  exact ⟨fun b o e => k _ _ (z1 b o e), z2, ff_keep k z3, oe, vs, T, oT, ts, k _ _ t1, t2, t3, t4, t5, t6, k _ _ t7, t8, t9⟩
theorem ld_name {X : Cx} {E : Value → Shared → Prop} {pins : List (Addr × Obj)} {s : Shared} {σ : L2.St} {H : Hp} {x : Str} {c : Value} {pos : Pos} {Q : Value → Shared → Prop} (I : L2.Inv X pins σ H s) (hc : Names X x c) (q : Q c s) :
    wpAny (model X.prog X.w) X.A (eval (.Name x pos) X.env) Q E s := by
  obtain ⟨hg, hd, hm | ⟨hm, hv, hn⟩⟩ := hc
  · exact ld_glob I hg hm q hd
  · exact ld_blt I hg hm hv q hn hd
/-! ## defs called within an except suite: they know the error that is handled -/
section
variable {X : Cx} {k : Nat} {x : Str} {ps : List Str} {sp : Addr × Obj → Sp} {p : Addr × Obj} {q pos : Pos} {e : Expr} {es : List Expr} {t : TA}
/-! ## what an error that is handled is asked -/
/-- an error at p: its class, its fields -/
def ErrAt (H : Hp) (p : Addr × Obj) (C : Addr) (fs : List (Str × V)) : Prop := (∃ vs, p.2.data = Data.fields vs) ∧ ((∃ d, Zc (.ref C) (some d) p.2 ∧ H d = some (.xd fs)) ∨ (Zc (.ref C) none p.2 ∧ fs = []))
theorem ErrAt.mono {H H' : Hp} {p : Addr × Obj} {C : Addr} {fs : List (Str × V)} (h : ErrAt H p C fs) (s : Same H H') : ErrAt H' p C fs := by
  obtain ⟨h2, ⟨d, h1, h3⟩ | h1⟩ := h
  · exact ⟨h2, .inl ⟨d, h1, s _ _ h3⟩⟩
  · exact ⟨h2, .inr h1⟩
end
/-! ## own errors of one field are raised -/
def spErr (C : Addr) (fld : Str) : Sp := fun vs H Q _ => ∃ (a : Addr) (v : V), vs = [.ref a, v] ∧ H a = some (exo a C none) ∧ ∀ d, H d = none → d ≠ a → Q .non (upd (upd H d (exd d [(fld, v)])) a (exo a C (some d)))
/-- what is behind the making of an error -/
theorem mk_err {C : Addr} {fld : Str} {v : V} {H1 : Hp} {Q : XK} (q : ∀ d, H1 d = none → Q (.ref C) (some d) (upd H1 d (.xd [(fld, v)]))) :
    [v].length ≤ 1000 ∧ ∀ a : Addr, H1 a = none → spErr C fld (.ref a :: ([v] ++ [])) (upd H1 a (exo a C none))
      (fun v H2 => v = .non ∧ ∃ (d : Addr) (fs : List (Str × V)), H2 a = some (exo a C (some d)) ∧ H2 d = some (exd d fs) ∧ H1 d = none ∧ Q (.ref C) (some d) (upd (del H2 a) d (.xd fs))) (fun _ _ _ => False) := by
  refine ⟨by show 1 ≤ 1000; decide, fun a ha => ⟨a, v, rfl, upd_same, fun d hd hne => ⟨rfl, d, [(fld, v)], upd_same, ?_, ?_, ?_⟩⟩⟩
  · rw [upd_ne hne, upd_same]
  · rw [upd_ne hne] at hd; exact hd
  · have hd' : H1 d = none := by rw [upd_ne hne] at hd; exact hd
    have e : upd (del (upd (upd (upd H1 a (exo a C none)) d (exd d [(fld, v)])) a (exo a C (some d))) a) d (.xd [(fld, v)]) = upd H1 d (.xd [(fld, v)]) := by
      funext b
      by_cases h1 : b = d
      · rw [h1, upd_same, upd_same]
      · rw [upd_ne h1, upd_ne h1]
        by_cases h2 : b = a
        · rw [h2, del_same, ha]
        · rw [del_ne h2, upd_ne h2, upd_ne h1, upd_ne h2]
    rw [e]
    exact q d hd'
end Ts
namespace Ts
open PySem PySem.Spec PyProof.Rows L2 L2H LamX
/-! ## lists of truths: how often, and where first -/
/-! ## the classes of errors that the laws tell apart -/
structure Cls11 where
  (t n m s g l o f u y a : Addr)
abbrev Cls11.list (c : Cls11) : List Addr := [c.t, c.n, c.m, c.s, c.g, c.l, c.o, c.f, c.u, c.y, c.a]
end Ts
namespace Ts
open PySem PySem.Spec PyProof.Rows L2 L2H LamX
/-! ## repr of any data -/
theorem call_reprV {X : Cx} (hg : X.A.guards = some []) (hu : X.A.units + 100 < cLine) : CallR X (.builtin "repr") (fun xs H Q => ∃ v d, xs = [v] ∧ Dp X.K H v d ∧ d.showable = true ∧ d.hasDict = false ∧ d.depth < 60 ∧ d.shown.length ≤ sizeLine ∧ Q (.str d.shown) H) := by
  intro pins s σ H xs us Q I r h
  obtain ⟨v, d, rfl, hd, h1, h2, h3, h4, q⟩ := h
  cases hd with
  | non =>
    obtain ⟨u, rfl, ru⟩ := vals1 r
    cases ru
    exact PySem.P.repr_of_none ⟨.str _, H, I.tok _, ⟨_, rfl⟩, q⟩
  | bl b =>
    obtain ⟨u, rfl, ru⟩ := vals1 r
    cases ru
    exact PySem.P.repr_of_bool ⟨.str _, H, I.tok _, ⟨_, rfl⟩, q⟩
  | int i =>
    obtain ⟨u, rfl, t, rfl⟩ := vals1 r
    exact PySem.P.repr_of_int (of_decide_eq_true h1) ⟨.str _, H, I.tok _, ⟨_, rfl⟩, q⟩
  | str x =>
    obtain ⟨u, rfl, t, rfl⟩ := vals1 r
    exact PySem.P.repr_of_str ⟨.str _, H, I.tok _, ⟨_, rfl⟩, q⟩ h4
  | lst a1 a2 => exact call_reprD hg hu pins s σ H _ _ Q I r ⟨_, _, rfl, .lst a1 a2, h1, h2, h3, h4, q⟩
  | tup a1 a2 => exact call_reprD hg hu pins s σ H _ _ Q I r ⟨_, _, rfl, .tup a1 a2, h1, h2, h3, h4, q⟩
end Ts
namespace Ts
open PySem PySem.Spec PyProof.Rows L2 L2H LamX
/-- what repr says of a value -/
def ShownV (K : PySem.W.Frag) (H : Hp) (v : V) (t : Str) : Prop := ∃ d, Dp K H v d ∧ d.showable = true ∧ d.hasDict = false ∧ d.depth < 60 ∧ d.shown.length ≤ sizeLine ∧ t = d.shown
theorem ShownV.mono {K : PySem.W.Frag} {H H' : Hp} {v : V} {t : Str} (h : ShownV K H v t) (s : Same H H') : ShownV K H' v t := by
  obtain ⟨d, h1, h2⟩ := h
  exact ⟨d, h1.mono s, h2⟩
end Ts
namespace Ts
open PySem PySem.Spec PyProof.Rows L2 L2H LamX
/-! ## defs that make lambdas: their code is known -/
/-- a def that stands at the top under its name, its code at c -/
structure DefAtC (K : PySem.W.Frag) (mg : Str → Option Value) (x : Str) (st : Stmt) (c : Addr) : Prop where
  ex : ∃ f fd, Fun K x x st f fd ∧ mg x = some (.ref f) ∧ fd.code = .ref c
theorem DefAtC.hasG {P : Program} {w : World} {K : PySem.W.Frag} {mg : Str → Option Value} {base : Heap} {x : Str} {st : Stmt} {k : Nat} {c : Addr} {ps : List Str} {sp : Sp} (D : DefAtC K mg x st c)
    (hb : ∀ (kV doc pm : Value) (an : Option Addr) (cdv ct : Value) (us : List Value), us.length = ps.length → bindArgs (PySem.W.fnOf x x (defArgs st) (defBody st) (defScope st) .none kV doc pm an cdv ct) ⟨us, []⟩ = pure (ps.zip us))
    (ok : ∀ f fd, Fun K x x st f fd → fd.code = .ref c → FnG P w K mg base k f fd ps sp) : HasG P w K mg base k x ps sp := by
  obtain ⟨f, fd, F, hm, hc⟩ := D.ex
  exact ⟨f, fd, ok f fd F hc, hm, F.kp, F.binds hb⟩
/-! ## the law, where lambdas are made -/
end Ts
namespace Ts
open PySem PySem.Spec PyProof.Rows L2 LamX
/-! ## the head by facts: defs where they stand, one Bool of facts, tables of code -/
structure DefF where
  adr : PySem.W.Frag → Addr
  name : Str
  qual : Str
  st : Stmt
def DefF.said (d : DefF) : He.FnV := some (d.name, d.qual, defArgs d.st, .stmts (defBody d.st), defScope d.st, mainGlobals, [], .none, builtinsNs)
def seenF (K : PySem.W.Frag) (a : Addr) : He.FnV := match K.lookup a with
  | some o => (match o.data with
    | .func fd => some (fd.name, fd.qualname, fd.params, fd.body, fd.scope, fd.globals, fd.closure, fd.defaults, fd.builtins)
    | _ => none)
  | none => none
def codeF (K : PySem.W.Frag) (a : Addr) (q : Str) : Bool := match K.lookup a with
  | some o => (match o.data with
    | .func fd => PySem.W.codeIn K fd.code q
    | _ => false)
  | none => false
theorem defF_ok {K : PySem.W.Frag} {d : DefF} (e : seenF K (d.adr K) = d.said) (c : codeF K (d.adr K) d.qual = true) :
    ∃ (oc : Value) (od : Option Addr) (sl : Array (Option Value)) (kV dc pm : Value) (an : Option Addr) (cd ct : Value), K.lookup (d.adr K) = some ⟨oc, od, .func (PySem.W.fnOf d.name d.qual (defArgs d.st) (defBody d.st) (defScope d.st) .none kV dc pm an cd ct), sl⟩ ∧ PySem.W.codeIn K cd d.qual = true := by
  unfold seenF at e
  unfold codeF at c
  cases hl : K.lookup (d.adr K) with
  | none => rw [hl] at c; cases c
  | some o =>
    obtain ⟨oc, od, dt, sl⟩ := o
    rw [hl] at c e
    cases dt with
    | func fd =>
      obtain ⟨m1, m2, m3, m4, m5, m6, m7, m8, m9, p1, p2, p3, p4, p5, p6⟩ := fd
      have e9 : (some (m1, m2, m3, m4, m5, m6, m7, m8, p6) : He.FnV) = some (d.name, d.qual, defArgs d.st, .stmts (defBody d.st), defScope d.st, mainGlobals, [], .none, builtinsNs) := e
      simp only [Option.some.injEq, Prod.mk.injEq] at e9
      obtain ⟨rfl, rfl, rfl, rfl, rfl, rfl, rfl, rfl, rfl⟩ := e9
      exact ⟨oc, od, sl, m9, p1, p2, p3, p4, p5, rfl, c⟩
    | _ => cases c
/-- the token of a number or a text of the top -/
def tokAd (K : PySem.W.Frag) (x : Str) : Tok := match PySem.W.nsIn K mainGlobals x with
  | some (some (.int _ t)) => t
  | some (some (.str _ t)) => t
  | _ => default
/-- what a property's object was made of -/
def getAd (K : PySem.W.Frag) (p : Addr) : Addr := match PySem.W.recIn K p "property" with
  | some (.ref f :: _) => f
  | _ => 0
def restAd (K : PySem.W.Frag) (p : Addr) : List Value := match PySem.W.recIn K p "property" with
  | some (_ :: r) => r
  | _ => []
abbrev AlF : Type := Bool × List He.FnV
def okF (fn : List DefF) (tf : List (PySem.W.Frag → Addr × Addr)) (ex : PySem.W.Frag → Bool) (g : Addr → Option Obj) (K : PySem.W.Frag) : Bool :=
  (fn.all fun d => codeF K (d.adr K) d.qual) && (ex K && tf.all fun p => PySem.W.codeHdIn K (p K).1 (p K).2 && (match g (p K).2 with
    | some o => He.emptyTab o
    | none => false))
def lookF (fn : List DefF) (tf : List (PySem.W.Frag → Addr × Addr)) (ex : PySem.W.Frag → Bool) (g : Addr → Option Obj) (K : PySem.W.Frag) : AlF := (okF fn tf ex g K, fn.map fun d => seenF K (d.adr K))
def dueF (fn : List DefF) : AlF := (true, fn.map DefF.said)
structure SaysF (fn : List DefF) (tf : List (PySem.W.Frag → Addr × Addr)) (ex : PySem.W.Frag → Bool) (h : Heap) (K : PySem.W.Frag) : Prop where
  fns : fn.map (fun d => seenF K (d.adr K)) = fn.map DefF.said
  codes : ∀ d ∈ fn, codeF K (d.adr K) d.qual = true
  more : ex K = true
  heads : ∀ p ∈ tf, PySem.W.codeHdIn K (p K).1 (p K).2 = true
  outs : ∀ p ∈ tf, K.lookup (p K).2 = none
  empties : ∀ p ∈ tf, h.get? (p K).2 = some { cls := .none, data := .fields #[] }
theorem SaysF.def_ {fn : List DefF} {tf : List (PySem.W.Frag → Addr × Addr)} {ex : PySem.W.Frag → Bool} {h : Heap} {K : PySem.W.Frag} (S : SaysF fn tf ex h K) (i : Nat) {d : DefF} (hi : fn[i]? = some d := by rfl) :
    ∃ (oc : Value) (od : Option Addr) (sl : Array (Option Value)) (kV dc pm : Value) (an : Option Addr) (cd ct : Value), K.lookup (d.adr K) = some ⟨oc, od, .func (PySem.W.fnOf d.name d.qual (defArgs d.st) (defBody d.st) (defScope d.st) .none kV dc pm an cd ct), sl⟩ ∧ PySem.W.codeIn K cd d.qual = true := by
  have e : (fn.map fun d => seenF K (d.adr K))[i]? = (fn.map DefF.said)[i]? := by rw [S.fns]
  rw [List.getElem?_map, List.getElem?_map, hi] at e
  exact defF_ok (Option.some.inj e) (S.codes d (List.mem_of_getElem? hi))
theorem saysF_of {as : List Addr} {fn : List DefF} {tf : List (PySem.W.Frag → Addr × Addr)} {ex : PySem.W.Frag → Bool} {h : Heap} (e : lookF fn tf ex h.get? (He.frT h.get? as) = dueF fn) : SaysF fn tf ex h (He.frT h.get? as) := by
  have e1 := (Prod.mk.inj e).1
  have e2 := (Prod.mk.inj e).2
  unfold okF at e1
  obtain ⟨z1, z2⟩ := He.ba e1
  obtain ⟨z3, z4⟩ := He.ba z2
  have key : ∀ p ∈ tf, PySem.W.codeHdIn (He.frT h.get? as) (p (He.frT h.get? as)).1 (p (He.frT h.get? as)).2 = true ∧
      ∃ o, h.get? (p (He.frT h.get? as)).2 = some o ∧ He.emptyTab o = true := fun p hp => by
    obtain ⟨y1, y2⟩ := He.ba (List.all_eq_true.mp z4 p hp)
    refine ⟨y1, ?_⟩
    cases q : h.get? (p (He.frT h.get? as)).2 with
    | none => rw [q] at y2; cases y2
    | some o => rw [q] at y2; exact ⟨o, rfl, y2⟩
  exact ⟨e2, fun d hd => List.all_eq_true.mp z1 d hd, z3, fun p hp => (key p hp).1,
    fun p hp => let ⟨_, _, q, z⟩ := key p hp; He.frT_none q z,
    fun p hp => let ⟨_, _, q, z⟩ := key p hp; by rw [q, He.emptyTab_eq z]⟩
/-- the run of the top by the library's twins -/
noncomputable abbrev topF (r : PySem.W.OpenRow) (M : Nat) (w : World) : Option (Shared × PySem.W.SharedT) := HandSHeadRun.wholeF (fun p => HandSHeadRun.stepQ (HandSHeadRun.denQ HandSHeadRun.tabQ) p w) HandSHeadRun.fenceQ M r.prog
/-- its equation, asked in two parts -/
theorem run_two {r : PySem.W.OpenRow} {q : Program} {H : PySem.W.Hook} {ob : PySem.W.SharedT → H.α} {M : Nat} {loose : List Str} {w : World}
    (h1 : (topF r M w).map (fun x => (HandSHeadRun.looksF r.prog x.1.heap x.2.abs, HandSHeadRun.seenQ q loose (importedModules r.prog.main.body) (fun s => PySem.W.xlAt q [] s && PySem.W.recOk r.toRowW.records s) x.2.abs)) = some (true, PySem.W.openGood q loose))
    (h2 : (topF r M w).map (fun x => ob x.2) = some (H.val w)) : HandSHeadRun.RunEqI r q H ob M loose w := by
  show (topF r M w).map _ = _
  revert h1 h2
  generalize topF r M w = o
  intro h1 h2
  cases o with
  | none => cases h1
  | some x =>
    have a := Prod.mk.inj (Option.some.inj h1)
    have b := Option.some.inj h2
    exact congrArg some (Prod.ext a.1 (Prod.ext a.2 b))
/-! ### the law is called, over such a head -/
theorem walk_GF {l : PySem.W.OpenLaw} {k : Nat} {q : Program} {loose : List Str} {XP : (Str → Option Value) → Heap → Prop} {YP : World → Heap → Prop} {d : DefRec} {x : Str}
    (most : l.most = some 63) (plain : d.params.defaults = []) (room : Room k callerA)
    (F : ∀ (w : World) (mg : Str → Option Value) (fa : Addr) (h : Heap), YP w h → h.Ns mainGlobals mg → mg d.name = some (.ref fa) →
      ∃ (K : PySem.W.Frag) (fd : FuncData), K.In h ∧ (∀ (s : Shared) (u : Value), BindsTo s fd ⟨[u], []⟩ [(x, u)]) ∧ ∀ base : Heap, FnG l.prog w K mg base k fa fd [x] (spLaw K)) :
    PySem.W.WalkO q loose XP YP l.row.toRowW d [] (fun f vs => PySem.call f vs) := by
  refine Att.attach_call most plain fun w s t mg mb fa o pm cd doc a vs ns G Y ho hd hcd hmg hobj hints hlen hg => ?_
  obtain ⟨K, fd, inK, bind, hF⟩ := F w mg fa _ Y G.T.g hmg
  exact end_G inK G.T.g G.T.b G.T.builtins G.T.nolimit hg hobj hints (Nat.le_trans hlen (by decide)) room (fun base _ _ => hF base) bind fun H hS => ⟨a, ns, rfl, hS, hlen, fun _ => rfl⟩
end Ts
namespace Ts
open PySem PySem.Spec PyProof.Rows L2 LamX
/-! ## the head by facts, with tables of the top (dicts with text keys) -/
abbrev AlW : Type := AlF × List (Option (List (Option (Str × Int))))
def lookW (fn : List DefF) (tf : List (PySem.W.Frag → Addr × Addr)) (ex : PySem.W.Frag → Bool) (ts : List He.Tab) (g : Addr → Option Obj) (K : PySem.W.Frag) : AlW := (lookF fn tf ex g K, ts.map fun t => He.dicW K (t.1 K))
def dueW (fn : List DefF) (ts : List He.Tab) (w : World) : AlW := (dueF fn, ts.map fun t => some (He.keysIn w.params t.2))
def TabsW (ts : List He.Tab) (w : World) (K : PySem.W.Frag) : Prop := (ts.map fun t => He.dicW K (t.1 K)) = ts.map fun t => some (He.keysIn w.params t.2)
theorem TabsW.dict {ts : List He.Tab} {w : World} {K : PySem.W.Frag} (c : TabsW ts w K) (i : Nat) {t : He.Tab} (h : ts[i]? = some t := by rfl) : ∃ es n, KDict K w (t.1 K) es n := by
  have e2 : (ts.map fun t => He.dicW K (t.1 K))[i]? = (ts.map fun t => some (He.keysIn w.params t.2))[i]? := by rw [c]
  rw [List.getElem?_map, List.getElem?_map, h] at e2
  exact He.dicW_ok (Option.some.inj e2)
def hookW (as : List Addr) (fn : List DefF) (tf : List (PySem.W.Frag → Addr × Addr)) (ex : PySem.W.Frag → Bool) (ts : List He.Tab) : PySem.W.Hook where
  α := AlW
  obs := fun s => lookW fn tf ex ts s.heap.get? (He.frT s.heap.get? as)
  val := fun w => dueW fn ts w
  says := fun w h => ∃ K : PySem.W.Frag, K.In h ∧ SaysF fn tf ex h K ∧ TabsW ts w K
  of := fun _ _ e => ⟨_, He.frT_in, saysF_of (congrArg (fun z : AlW => z.1) e), congrArg (fun z : AlW => z.2) e⟩
  keeps := fun _ _ _ ⟨K, hK, c, d⟩ k => ⟨K, PySem.W.Frag.In.keeps hK k, ⟨c.fns, c.codes, c.more, c.heads, c.outs, fun p hp => k _ _ (c.empties p hp)⟩, d⟩
def viewW (as : List Addr) (fn : List DefF) (tf : List (PySem.W.Frag → Addr × Addr)) (ex : PySem.W.Frag → Bool) (ts : List He.Tab) (g : Addr → Option Obj) : AlW := lookW fn tf ex ts g (He.frT g as)
theorem viewW_eq {as : List Addr} {fn : List DefF} {tf : List (PySem.W.Frag → Addr × Addr)} {ex : PySem.W.Frag → Bool} {ts : List He.Tab} (s : PySem.W.SharedT) : viewW as fn tf ex ts (HandSHeadRun.getT s) = (hookW as fn tf ex ts).obs s.abs := by
  have e : HandSHeadRun.getT s = s.abs.heap.get? := funext (HandSHeadRun.getT_eq s)
  show lookW fn tf ex ts (HandSHeadRun.getT s) (He.frT (HandSHeadRun.getT s) as) = lookW fn tf ex ts s.abs.heap.get? (He.frT s.abs.heap.get? as)
  rw [e]
/-! ## a tuple of texts of the top -/
/-- an integer of the program's own table -/
def intIn70 (K : PySem.W.Frag) (a : Addr) (x : Str) (n : Int) : Bool := match PySem.W.nsIn K a x with
  | some (some (.int k _)) => decide (k = n)
  | _ => false
theorem intIn70_at {K : PySem.W.Frag} {a : Addr} {x : Str} {n : Int} (h : intIn70 K a x n = true) : ∃ t, PySem.W.nsIn K a x = some (some (.int n t)) := by
  unfold intIn70 at h
  split at h
  · rename_i k t e; exact ⟨t, by rw [e, of_decide_eq_true h]⟩
  · cases h
end Ts
namespace Ts
open PySem PySem.Spec PyProof.Rows L2 L2H LamX
/-! ## defs that raise -/
section
variable (P : Program) (w : World) (K : PySem.W.Frag) (mg : Str → Option Value) (base : Heap)
structure HasX (k : Nat) (x : Str) (ps : List Str) (sp : Sp) : Prop where
  ex : ∃ f fd, FnOk P w K mg base (L2.CX P w) k f fd ps sp ∧ mg x = some (.ref f) ∧ PySem.W.keepIn K (.ref f) = true ∧ Binds K fd ps []
end
section
variable {P : Program} {w : World} {K : PySem.W.Frag} {mg : Str → Option Value} {base : Heap}
theorem DefAt.hasX {x : Str} {st : Stmt} {k : Nat} {ps : List Str} {sp : Sp} (D : DefAt K mg x st)
    (hb : ∀ (kV doc pm : Value) (an : Option Addr) (cdv ct : Value) (us : List Value), us.length = ps.length → bindArgs (PySem.W.fnOf x x (defArgs st) (defBody st) (defScope st) .none kV doc pm an cdv ct) ⟨us, []⟩ = pure (ps.zip us))
    (ok : ∀ f fd, Fun K x x st f fd → FnOk P w K mg base (L2.CX P w) k f fd ps sp) : HasX P w K mg base k x ps sp := by
  obtain ⟨f, fd, F, hm⟩ := D.ex
  exact ⟨f, fd, ok f fd F, hm, F.kp, F.binds hb⟩
end
/-- f(..), f a def that may raise -/
theorem pe_x {X : Cx} {k : Nat} {x : Str} {ps : List Str} {sp : Sp} {W : WX} {p pos : Pos} {e : Expr} {es : List Expr} {t : TA} (h : HasX X.prog X.w X.K X.mg X.base k x ps sp) (hr : Room k X.A) (tk : Takes X W) (ha : PA X (e :: es) t) (hg : Gl X x := by rfl)
    (hdb : (x == ("__debug__" : Str)) = false := by decide) (he : starEach (e :: es) X.env = (false, eval e X.env) :: starEach es X.env := by rfl) (hpl : (backTo pos (starEach es X.env)).any (·.1) = false := by rfl) :
    PE X (.Call (.Name x p) (e :: es) [] pos) (tCallS sp (WE W) t) := by
  obtain ⟨f, fd, F, hm, hk, hb⟩ := h.ex
  exact pe_callS F hr hg hm hk hb (fun σ => passAt tk σ) ha hdb he hpl
/-! ## values of any kind -/
/-- what a number is asked: o is the number, none what is no integer -/
def KindV (K : PySem.W.Frag) (H : Hp) (v : V) : Option Int → Prop
  | some i => v = .int i
  | none => ∃ T, T ∈ ["bool", "str", "NoneType", "list", "tuple", "dict"] ∧ TyX K H v (.type T)
theorem TyX.mono {K : PySem.W.Frag} {H H' : Hp} {x : V} {t : Value} (h : TyX K H x t) (s : Same H H') : TyX K H' x t := by
  cases h with
  | base b => exact .base (match b with
    | .non => .non
    | .bl x => .bl x
    | .int i => .int i
    | .str x => .str x
    | .flt x => .flt x
    | .lst e => .lst (s _ _ e)
    | .frz e => .frz (s _ _ e)
    | .tup e => .tup (s _ _ e)
    | .dK e => .dK (s _ _ e)
    | .dT e => .dT (s _ _ e)
    | .ins e a b c d f => .ins (s _ _ e) a b c d f)
  | byt b => exact .byt b
  | set e => exact .set (s _ _ e)
  | kList e c => exact .kList e c
  | kTuple e c => exact .kTuple e c
  | kDict e c => exact .kDict e c
  | fTuple e => exact .fTuple (s _ _ e)
  | fDict e => exact .fDict (s _ _ e)
theorem KindV.mono {K : PySem.W.Frag} {H H' : Hp} {v : V} {o : Option Int} (h : KindV K H v o) (s : Same H H') : KindV K H' v o := by
  cases o with
  | some i => exact h
  | none => obtain ⟨T, h1, h2⟩ := h; exact ⟨T, h1, TyX.mono h2 s⟩
def inRg (o : Option Int) (lo hi : Int) : Bool := match o with
  | some i => decide (lo ≤ i ∧ i ≤ hi)
  | none => false
def spIsNumberFromA (K : PySem.W.Frag) : Sp := fun vs H Q _ => ∃ (v : V) (lo : Int) (o : Option Int), vs = [v, .int lo] ∧ KindV K H v o ∧ Q (.bl (match o with | some i => decide (lo ≤ i) | none => false)) H
def spIsNumberA (K : PySem.W.Frag) : Sp := fun vs H Q _ => ∃ (v : V) (lo hi : Int) (o : Option Int), vs = [v, .int lo, .int hi] ∧ KindV K H v o ∧ Q (.bl (inRg o lo hi)) H
/-- an error of the class at C that keeps v under fld -/
def Raise1 (C : Addr) (fld : Str) (v : V) (H : Hp) (E : XK) : Prop := ∀ (H' : Hp) (d : Addr), Same H H' → H' d = none → E (.ref C) (some d) (upd H' d (.xd [(fld, v)]))
/-- a thing that may be a log: none what is no tuple, else what its elements are -/
def ThingAt (K : PySem.W.Frag) (H : Hp) (v : V) : Option (List (Option Int)) → Prop
  | some os => ∃ (p : Addr) (xs : List V), v = .ref p ∧ H p = some (.tup xs) ∧ xs.length = os.length ∧ ∀ (i : Nat) (x : V) (o : Option Int), xs[i]? = some x → os[i]? = some o → KindV K H x o
  | none => ∃ T, T ∈ ["int", "bool", "str", "NoneType", "list", "dict"] ∧ TyX K H v (.type T)
theorem ThingAt.mono {K : PySem.W.Frag} {H H' : Hp} {v : V} {t : Option (List (Option Int))} (h : ThingAt K H v t) (s : Same H H') : ThingAt K H' v t := by
  cases t with
  | none => obtain ⟨T, h1, h2⟩ := h; exact ⟨T, h1, TyX.mono h2 s⟩
  | some os => obtain ⟨p, xs, h1, h2, h3, h4⟩ := h; exact ⟨p, xs, h1, s _ _ h2, h3, fun i x o a b => (h4 i x o a b).mono s⟩
end Ts
namespace Ts
open PySem PySem.Spec PyProof.Rows L2 L2H LamX
/-! ## a block whose first statement always leaves -/
/-! ## what stays where draws are made and lambdas -/
/-- all but what stands at b and the tables of code stays -/
def Ext2 (b : Addr) (H H' : Hp) : Prop := ∀ a o, a ≠ b → (∀ ps, o ≠ .tbl ps) → H a = some o → H' a = some o
theorem Ext2.refl {b : Addr} {H : Hp} : Ext2 b H H := fun _ _ _ _ h => h
theorem Ext2.trans {b : Addr} {H H1 H2 : Hp} (x : Ext2 b H H1) (y : Ext2 b H1 H2) : Ext2 b H H2 := fun a o n t h => y a o n t (x a o n t h)
theorem Ext2.ext {b : Addr} {H H' : Hp} (x : ExtN H H') : Ext2 b H H' := fun a o _ t h => x a o h t
def isTbl : HO → Bool
  | .tbl _ => true
  | _ => false
theorem isTbl_no {o : HO} (h : isTbl o = false) : ∀ ps, o ≠ .tbl ps := fun ps z => by rw [z] at h; cases h
theorem isTbl_of {o : HO} (h : ∀ ps, o ≠ .tbl ps) : isTbl o = false := by
  cases o <;> first | rfl | exact absurd rfl (h _)
/-- the heap without what stands at b and without tables -/
def hid2 (b : Addr) (H : Hp) : Hp := fun a => if a = b then none else match H a with
  | some o => if isTbl o = true then none else some o
  | none => none
theorem hid2_some {b a : Addr} {H : Hp} {o : HO} (h : hid2 b H a = some o) : a ≠ b ∧ (∀ ps, o ≠ .tbl ps) ∧ H a = some o := by
  unfold hid2 at h
  split at h
  · cases h
  · split at h
    · rename_i n _ o' e
      split at h
      · cases h
      · rename_i c
        cases h
        exact ⟨n, isTbl_no (by simpa using c), e⟩
    · cases h
theorem hid2_of {b a : Addr} {H : Hp} {o : HO} (n : a ≠ b) (t : ∀ ps, o ≠ .tbl ps) (h : H a = some o) : hid2 b H a = some o := by
  unfold hid2
  rw [if_neg n, h]
  show (if isTbl o = true then none else some o) = some o
  rw [isTbl_of t]; rfl
theorem hid2_sub {b : Addr} {H : Hp} : Same (hid2 b H) H := fun a o h => (hid2_some h).2.2
theorem Ext2.hid {b : Addr} {H H' : Hp} (x : Ext2 b H H') : Same (hid2 b H) (hid2 b H') := fun a o h => by
  obtain ⟨n, t, e⟩ := hid2_some h
  exact hid2_of n t (x a o n t e)
theorem hid2_ext {b : Addr} {H H' : Hp} (x : ExtN H H') : Same (hid2 b H) (hid2 b H') := (Ext2.ext x).hid
theorem Bas.ext {b : Addr} {H H' : Hp} (h : Bas H b) (x : ExtN H H') : Bas H' b := by
  obtain ⟨u, v, w, e⟩ := h
  exact ⟨u, v, w, x _ _ e fun ps z => nomatch z⟩
/-! ## values of any kind: what they are by their data -/
def kindD : PyData → Option Int
  | .int i => some i
  | _ => none
theorem SqT.ty {K : PySem.W.Frag} {H : Hp} {a : Addr} {xs : List V} (h : SqT K H a xs) : TyX K H (.ref a) (.type "tuple") := by
  rcases h with (h | ⟨o, h⟩) | ⟨o, its, n, h1, h2, _⟩
  · exact .base (.tup h)
  · exact .fTuple h
  · exact .kTuple h1 h2
theorem SqL.ty {K : PySem.W.Frag} {H : Hp} {a : Addr} {xs : List V} (h : SqL K H a xs) : TyX K H (.ref a) (.type "list") := by
  rcases h with (h | ⟨o, h⟩) | ⟨o, its, n, h1, h2, _⟩
  · exact .base (.lst h)
  · exact .base (.frz h)
  · exact .kList h1 h2
theorem dp_kind {K : PySem.W.Frag} {H : Hp} {v : V} {d : PyData} (h : Dp K H v d) : KindV K H v (kindD d) := by
  cases h with
  | non => exact ⟨"NoneType", by decide, .base .non⟩
  | bl b => exact ⟨"bool", by decide, .base (.bl b)⟩
  | int i => rfl
  | str x => exact ⟨"str", by decide, .base (.str x)⟩
  | lst h a => exact ⟨"list", by decide, SqL.ty h⟩
  | tup h a => exact ⟨"tuple", by decide, SqT.ty h⟩
/-- a thing: a tuple of data, or a value that is no tuple -/
def ThingP (K : PySem.W.Frag) (H : Hp) (v : V) : Option (List PyData) → Prop
  | some ds => ∃ (p : Addr) (xs : List V), v = .ref p ∧ H p = some (.tup xs) ∧ DpAll K H xs ds ∧ ds.length ≤ 3000 ∧ SeqAt.shaped (.tuple ds) = true
  | none => ∃ T, T ∈ ["int", "bool", "str", "NoneType", "list", "dict"] ∧ TyX K H v (.type T)
theorem ThingP.mono {K : PySem.W.Frag} {H H' : Hp} {v : V} {t : Option (List PyData)} (h : ThingP K H v t) (s : Same H H') : ThingP K H' v t := by
  cases t with
  | none => obtain ⟨T, h1, h2⟩ := h; exact ⟨T, h1, TyX.mono h2 s⟩
  | some os => obtain ⟨p, xs, h1, h2, h3, h4⟩ := h; exact ⟨p, xs, h1, s _ _ h2, h3.mono s, h4⟩
def kinds (t : Option (List PyData)) : Option (List (Option Int)) := t.map fun ds => ds.map kindD
theorem ThingP.at {K : PySem.W.Frag} {H : Hp} {v : V} {t : Option (List PyData)} (h : ThingP K H v t) : ThingAt K H v (kinds t) := by
  cases t with
  | none => exact h
  | some ds =>
    obtain ⟨p, xs, h1, h2, h3, h4⟩ := h
    refine ⟨p, xs, h1, h2, by rw [List.length_map]; exact h3.length, fun i x o e1 e2 => ?_⟩
    obtain ⟨d, hd, hv⟩ := h3.get e1
    rw [List.getElem?_map, hd] at e2
    cases Option.some.inj e2
    exact dp_kind hv
end Ts
namespace Ts
open PySem PySem.Spec PyProof.Rows L2
/-! ## ticks of a turn -/
/-! ## what the law's own look answers -/
/-! ## lists of ints as data -/
/-! ## texts of lists of ints and truths -/
theorem int_small {i : Int} (h0 : 0 ≤ i) (h1 : i < 10000000000) : (PyData.int i).showable = true ∧ (PyData.int i).shown.length ≤ 10 := by
  obtain ⟨n, rfl⟩ := Int.eq_ofNat_of_zero_le h0
  have hn : n < 10 ^ 10 := by omega
  exact ⟨show_int hn, shown_int hn⟩
/-! ## what a basin's change leaves -/
theorem seqT_hide {K : PySem.W.Frag} {H : Hp} {a b : Addr} {l xs : List V} (hb : H b = some (.lst l)) (h : SqT K H a xs) : SqT K (hid b H) a xs := by
  have ne : ∀ u, H a = some u → u ≠ HO.lst l → a ≠ b := fun u e d z => by rw [z, hb] at e; exact d (Option.some.inj e).symm
  rcases h with (h | ⟨ob, h⟩) | h
  · exact .inl (.inl ((hid_ne (ne _ h fun z => nomatch z)).trans h))
  · exact .inl (.inr ⟨ob, (hid_ne (ne _ h fun z => nomatch z)).trans h⟩)
  · exact .inr h
theorem part_hide {K : PySem.W.Frag} {H : Hp} {b : Addr} {l : List V} {v : V} {e p : Nat} (hb : H b = some (.lst l)) (h : Dp K H v (partD e p)) : Dp K (hid b H) v (partD e p) := by
  obtain ⟨a, rfl, hS⟩ := part_at h
  exact .tup (seqT_hide hb hS) (.cons (.int _) (.cons (.int _) .nil))
theorem shares_hide {K : PySem.W.Frag} {H : Hp} {b : Addr} {l : List V} (hb : H b = some (.lst l)) : ∀ {js : List Job} {vs : List V}, DpAll K H vs (sharesD js) → DpAll K (hid b H) vs (sharesD js)
  | [], _, .nil => .nil
  | j :: js, _, .cons h t => .cons (part_hide hb h) (shares_hide (js := js) hb t)
theorem LotAt.hide {K : PySem.W.Frag} {C : Addr} {H : Hp} {a b : Addr} {l : List V} {n : Nat} {js : List Job} (hb : H b = some (.lst l)) (L : LotAt K C H a n js) : LotAt K C (hid b H) a n js := by
  obtain ⟨dx, pn, ps, pt, h1, ⟨ob, h2, h5⟩, h3, h4⟩ := L.ex
  have ne : ∀ {c : Addr} {u : HO}, H c = some u → u ≠ HO.lst l → c ≠ b := fun {c u} e d z => by rw [z, hb] at e; exact d (Option.some.inj e).symm
  obtain ⟨ps', xs, e, hS, hA⟩ := h3.tuple
  cases e
  refine ⟨dx, pn, ps, pt, ?_, ⟨ob, ?_, h5⟩, .tup (seqT_hide hb hS) (shares_hide hb hA), part_hide hb h4⟩
  · rw [hid_ne (ne h1 fun z => nomatch z)]; exact h1
  · rw [hid_ne (ne h2 fun z => nomatch z)]; exact h2
end Ts
namespace Ts
open PySem PySem.Spec PyProof.Rows L2
/-! ## turns up to a moment -/
def lowI (e p : Nat) (t : Int) : Int := t * e / p
def highI (e p : Nat) (t : Int) : Int := (t * e + p - 1) / p
/-! ## counting turn by turn -/
/-! ## texts of pairs of greater numbers -/
theorem int_big {i : Int} (h0 : 0 ≤ i) (h1 : i < 10 ^ 40) : (PyData.int i).showable = true ∧ (PyData.int i).shown.length ≤ 40 := by
  obtain ⟨n, rfl⟩ := Int.eq_ofNat_of_zero_le h0
  have hn : n < 10 ^ 40 := by
    have : ((n : Nat) : Int) < ((10 ^ 40 : Nat) : Int) := by rw [Int.natCast_pow]; exact h1
    exact Int.ofNat_lt.mp this
  refine ⟨?_, ?_⟩
  · show decide (((n : Nat) : Int).natAbs.log2 < 1920) = true
    refine decide_eq_true ?_
    have e : ((n : Nat) : Int).natAbs = n := by simp
    rw [e]
    by_cases z : n = 0
    · subst z; decide
    · exact Nat.lt_trans ((Nat.log2_lt z).mpr (show n < 2 ^ 140 from Nat.lt_trans hn (by decide +kernel))) (by decide)
  · show (numS n).length ≤ 40
    rw [TL.len_tl, numS_tl]
    exact TL.numL_len (by decide) hn
end Ts
namespace Ts
open PySem PySem.Spec PyProof.Rows L2
/-! ## added up one by one -/
theorem low_scale {a b k : Nat} (hk : 0 < k) : a * k / Nat.gcd (a * k) (b * k) = a / Nat.gcd a b ∧ b * k / Nat.gcd (a * k) (b * k) = b / Nat.gcd a b := by
  rw [Nat.gcd_mul_right]
  exact ⟨Nat.mul_div_mul_right _ _ hk, Nat.mul_div_mul_right _ _ hk⟩
theorem big_snoc {js : List Job} {i : Nat} {j : Job} (h : js[i]? = some j) : bigN (js.take (i + 1)) = bigN (js.take i) + j.2.1 * (720720 / j.2.2) := by
  unfold bigN
  rw [map_take_succ (fun j : Job => j.2.1 * (720720 / j.2.2)) h, List.sum_append]; simp
theorem add_step {js : List Job} {i : Nat} {j : Job} (G : Good 16 js) (h : js[i]? = some j) :
    (totTop (js.take i) * j.2.2 + j.2.1 * totBot (js.take i)) / Nat.gcd (totTop (js.take i) * j.2.2 + j.2.1 * totBot (js.take i)) (totBot (js.take i) * j.2.2) = totTop (js.take (i + 1)) ∧
    (totBot (js.take i) * j.2.2) / Nat.gcd (totTop (js.take i) * j.2.2 + j.2.1 * totBot (js.take i)) (totBot (js.take i) * j.2.2) = totBot (js.take (i + 1)) := by
  obtain ⟨p1, p2, p3, _⟩ := G.part j (List.mem_of_getElem? h)
  have hp : 0 < j.2.2 := by omega
  obtain ⟨a1, a2⟩ := big_low (G.take (i := i))
  obtain ⟨c1, c2⟩ := big_low (G.take (i := i + 1))
  have hg : 0 < Nat.gcd (bigN (js.take i)) 720720 := Nat.gcd_pos_of_pos_right _ (by decide)
  have e1 : totTop (js.take i) * Nat.gcd (bigN (js.take i)) 720720 = bigN (js.take i) := by rw [← a1]; exact Nat.div_mul_cancel (Nat.gcd_dvd_left _ _)
  have e2 : totBot (js.take i) * Nat.gcd (bigN (js.take i)) 720720 = 720720 := by rw [← a2]; exact Nat.div_mul_cancel (Nat.gcd_dvd_right _ _)
  have e3 : 720720 / j.2.2 * j.2.2 = 720720 := Nat.div_mul_cancel (dvd_big hp p3)
  generalize Nat.gcd (bigN (js.take i)) 720720 = g at hg e1 e2
  have hx : (totTop (js.take i) * j.2.2 + j.2.1 * totBot (js.take i)) * g = bigN (js.take (i + 1)) * j.2.2 := by
    rw [big_snoc h, Nat.add_mul, Nat.add_mul, Nat.mul_right_comm, e1, Nat.mul_assoc j.2.1, e2, Nat.mul_assoc j.2.1, e3]
  have hy : (totBot (js.take i) * j.2.2) * g = 720720 * j.2.2 := by
    rw [Nat.mul_right_comm, e2]
  obtain ⟨s1, s2⟩ := low_scale (a := totTop (js.take i) * j.2.2 + j.2.1 * totBot (js.take i)) (b := totBot (js.take i) * j.2.2) hg
  obtain ⟨s3, s4⟩ := low_scale (a := bigN (js.take (i + 1))) (b := 720720) hp
  rw [hx, hy] at s1 s2
  rw [← s1, ← s2, s3, s4]
  exact ⟨c1, c2⟩
theorem tot_nil : totTop ([] : List Job) = 0 ∧ totBot ([] : List Job) = 1 := by decide
end Ts
namespace Ts
open PySem PySem.Spec PyProof.Rows L2
/-! ## what a lot shows, as data -/
def Plain (x : Str) : Prop := ∀ c ∈ TL.tl x, c < 128
theorem plain_app {x y : Str} (h : Plain x) (g : Plain y) : Plain (x ++ y) := fun c hc => by
  rw [TL.tl_append] at hc
  exact (List.mem_append.mp hc).elim (h c) (g c)
theorem plain_num (n : Nat) : Plain (numS n) := fun c hc => by
  by_cases z : c < 128
  · exact z
  · exact absurd hc (numS_free (by omega))
theorem plain_tag {t : Str} (h : IsTag t) : Plain t := fun c hc => by
  have := h.2.2 c hc
  omega
theorem mem_joinL {S : List Nat} {c : Nat} : ∀ {ps : List (List Nat)}, c ∈ TL.joinL S ps → c ∈ S ∨ ∃ p ∈ ps, c ∈ p
  | [], h => nomatch h
  | [p], h => .inr ⟨p, List.mem_cons_self, h⟩
  | p :: q :: r, h => by
    have h : c ∈ p ++ (S ++ TL.joinL S (q :: r)) := h
    rcases List.mem_append.mp h with h | h
    · exact .inr ⟨p, List.mem_cons_self, h⟩
    · rcases List.mem_append.mp h with h | h
      · exact .inl h
      · rcases mem_joinL h with h | ⟨u, hu, h⟩
        · exact .inl h
        · exact .inr ⟨u, List.mem_cons_of_mem _ hu, h⟩
theorem plain_row {j : Job} (h : IsTag j.1) : Plain (rowS j) := by
  unfold rowS
  exact plain_app (plain_app (plain_app (plain_app (plain_app (fun c hc => by revert c; decide) (plain_tag h)) (fun c hc => by revert c; decide)) (plain_num _)) (fun c hc => by revert c; decide)) (plain_num _)
theorem plain_hands (n : Nat) : Plain (handsS n) := by
  unfold handsS
  exact plain_app (fun c hc => by revert c; decide) (plain_num _)
theorem plain_page {d n : Nat} {js : List Job} (G : Good d js) : Plain (pageS n js) := fun c hc => by
  unfold pageS at hc
  rw [TL.join_eq, TL.tl_join, nl_tl] at hc
  rcases mem_joinL hc with h | ⟨u, hu, h⟩
  · rw [List.mem_singleton.mp h]; decide
  · obtain ⟨x, hx, rfl⟩ := List.mem_map.mp hu
    unfold rowsOf at hx
    rcases List.mem_cons.mp hx with rfl | hx
    · exact plain_hands n c h
    · obtain ⟨j, hj, rfl⟩ := List.mem_map.mp hx
      exact plain_row (G.tag j hj) c h
def reprS (m n : Nat) : Str := Str.ofString "Lot of " ++ numS m ++ Str.ofString " works, " ++ numS n ++ Str.ofString " hands"
theorem plain_repr (m n : Nat) : Plain (reprS m n) := by
  unfold reprS
  exact plain_app (plain_app (plain_app (plain_app (fun c hc => by revert c; decide) (plain_num _)) (fun c hc => by revert c; decide)) (plain_num _)) (fun c hc => by revert c; decide)
def shownD (n : Nat) (js : List Job) : PyData := .list [.str (pageS n js), .int n, .tuple (namesD js), .tuple (sharesD js), partD (totTop js) (totBot js), .int (spanN js : Int), .str (pageS n js), .bool true, .str (reprS js.length n)]
theorem short_str {x : Str} (h : Plain x) : PyData.leavesShort 13 (.str x) = true := by
  show (x.cps.toList.all fun c => decide (c < 16 ^ 8)) = true
  rw [List.all_eq_true]
  intro c hc
  have := h c hc
  exact decide_eq_true (by omega)
theorem short_int {i : Int} (h0 : 0 ≤ i) (h1 : i < 10000000000) : PyData.leavesShort 13 (.int i) = true := decide_eq_true (Nat.le_trans (int_small h0 h1).2 (by decide))
theorem weight_int {i : Int} (h0 : 0 ≤ i) (h1 : i < 10000000000) : PyData.weight (.int i) ≤ 100 := by
  show (if i == 0 then 0 else i.natAbs.log2 + 1) ≤ 100
  split
  · omega
  · by_cases z : i.natAbs = 0
    · rw [z]; decide
    · have := (Nat.log2_lt z).mpr (show i.natAbs < 2 ^ 40 by omega)
      omega
/-- data that a repr can write -/
structure Nice (w e : Nat) (d : PyData) : Prop where
  sh : d.showable = true
  lv : d.leavesShort 13 = true
  wt : d.weight ≤ w
  dp : d.depth ≤ e
  nd : d.hasDict = false
structure NiceAll (w e : Nat) (ds : List PyData) : Prop where
  sh : PyData.showableAll ds = true
  lv : PyData.leavesShortAll 13 ds = true
  wt : PyData.weightAll ds ≤ w
  dp : PyData.depthAll ds ≤ e
  nd : PyData.hasDictAll ds = false
theorem NiceAll.nil {w e : Nat} : NiceAll w e [] := ⟨rfl, rfl, Nat.zero_le _, Nat.zero_le _, rfl⟩
theorem NiceAll.cons {w w' e : Nat} {d : PyData} {ds : List PyData} (h : Nice w e d) (g : NiceAll w' e ds) : NiceAll (w + 1 + w') e (d :: ds) := by
  refine ⟨?_, ?_, ?_, ?_, ?_⟩
  · show (d.showable && PyData.showableAll ds) = true
    rw [h.sh, g.sh]; rfl
  · show (d.leavesShort 13 && PyData.leavesShortAll 13 ds) = true
    rw [h.lv, g.lv]; rfl
  · have h1 := h.wt
    have h2 := g.wt
    show d.weight + 1 + PyData.weightAll ds ≤ w + 1 + w'
    omega
  · have h1 := h.dp
    have h2 := g.dp
    show max d.depth (PyData.depthAll ds) ≤ e
    omega
  · show (d.hasDict || PyData.hasDictAll ds) = false
    rw [h.nd, g.nd]; rfl
theorem NiceAll.tup {w e : Nat} {ds : List PyData} (g : NiceAll w e ds) : Nice w (e + 1) (.tuple ds) := ⟨g.sh, g.lv, g.wt, Nat.succ_le_succ g.dp, g.nd⟩
theorem NiceAll.lst {w e : Nat} {ds : List PyData} (g : NiceAll w e ds) : Nice w (e + 1) (.list ds) := ⟨g.sh, g.lv, g.wt, Nat.succ_le_succ g.dp, g.nd⟩
theorem Nice.mono {w w' e e' : Nat} {d : PyData} (h : Nice w e d) (h1 : w ≤ w') (h2 : e ≤ e') : Nice w' e' d := ⟨h.sh, h.lv, Nat.le_trans h.wt h1, Nat.le_trans h.dp h2, h.nd⟩
theorem nice_str {w e : Nat} {x : Str} (h : Plain x) (hw : x.length ≤ w) : Nice w e (.str x) := ⟨rfl, short_str h, hw, Nat.zero_le _, rfl⟩
theorem nice_int {e : Nat} {i : Int} (h0 : 0 ≤ i) (h1 : i < 10000000000) : Nice 100 e (.int i) := ⟨(int_small h0 h1).1, short_int h0 h1, weight_int h0 h1, Nat.zero_le _, rfl⟩
theorem nice_bool {e : Nat} {b : Bool} : Nice 0 e (.bool b) := ⟨rfl, rfl, Nat.le_refl _, Nat.zero_le _, rfl⟩
theorem nice_part {e p : Nat} (h1 : e < 10000000000) (h2 : p < 10000000000) : Nice 202 1 (partD e p) :=
  (NiceAll.tup (NiceAll.cons (nice_int (e := 0) (by omega) (by omega)) (NiceAll.cons (nice_int (e := 0) (by omega) (by omega)) (NiceAll.nil (w := 0))))).mono (by decide) (by decide)
theorem nice_names : ∀ {js : List Job}, (∀ j ∈ js, IsTag j.1) → NiceAll (9 * js.length) 0 (namesD js)
  | [], _ => NiceAll.nil
  | j :: js, h => by
    have hj := h j List.mem_cons_self
    have g := NiceAll.cons (nice_str (w := 8) (e := 0) (plain_tag hj) hj.2.1) (nice_names (js := js) fun x hx => h x (List.mem_cons_of_mem _ hx))
    exact ⟨g.sh, g.lv, Nat.le_trans g.wt (by rw [List.length_cons]; omega), g.dp, g.nd⟩
theorem nice_shares : ∀ {js : List Job}, (∀ j ∈ js, GoodPart 16 j.2.1 j.2.2) → NiceAll (203 * js.length) 1 (sharesD js)
  | [], _ => NiceAll.nil
  | j :: js, h => by
    obtain ⟨p1, p2, p3, _⟩ := h j List.mem_cons_self
    have g := NiceAll.cons (nice_part (e := j.2.1) (p := j.2.2) (by omega) (by omega)) (nice_shares (js := js) fun x hx => h x (List.mem_cons_of_mem _ hx))
    exact ⟨g.sh, g.lv, Nat.le_trans g.wt (by rw [List.length_cons]; omega), g.dp, g.nd⟩
theorem Nice.fits {w e : Nat} {d : PyData} (h : Nice w e d) (h1 : w ≤ 1000000) (h2 : e < 60) : d.showable = true ∧ d.hasDict = false ∧ d.depth < 60 ∧ d.shown.length ≤ sizeLine :=
  ⟨h.sh, h.nd, Nat.lt_of_le_of_lt h.dp h2, PyData.shown_fits (by decide) (by decide) h.lv (Nat.le_trans h.wt (Nat.le_trans h1 (by decide)))⟩
theorem shown_fits {n : Nat} {js : List Job} (G : Good 16 js) (hl : js.length ≤ 6) (hn : n ≤ 6) : (shownD n js).showable = true ∧ (shownD n js).hasDict = false ∧ (shownD n js).depth < 60 ∧ (shownD n js).shown.length ≤ sizeLine := by
  have lp : (pageS n js).length ≤ 1000 := by
    have := page_len (n := n) (by omega) (G.mono (show 16 ≤ 1000 by decide)) (by omega)
    omega
  have lr : (reprS js.length n).length ≤ 1000 := by
    have l1 : (Str.ofString "Lot of ").length = 7 := by decide
    have l2 : (Str.ofString " works, ").length = 8 := by decide
    have l3 : (Str.ofString " hands").length = 6 := by decide
    have l5 := numS_len (n := js.length) (by omega)
    have l6 := numS_len (n := n) (by omega)
    unfold reprS
    rw [Str.length_append, Str.length_append, Str.length_append, Str.length_append, l1, l2, l3]
    omega
  have t1 := top_le G hl
  have t2 := bot_le G
  have t3 := span_le G
  have ns := (nice_names G.tag).tup.mono (show 9 * js.length ≤ 1000 by omega) (show 0 + 1 ≤ 2 by decide)
  have ss := (nice_shares G.part).tup.mono (show 203 * js.length ≤ 2000 by omega) (show 1 + 1 ≤ 2 by decide)
  have page := nice_str (e := 2) (plain_page (n := n) G) lp
  have pr := (nice_part (e := totTop js) (p := totBot js) (by omega) (by omega)).mono (Nat.le_refl _) (show 1 ≤ 2 by decide)
  have all := NiceAll.lst (NiceAll.cons page (NiceAll.cons (nice_int (i := (n : Int)) (by omega) (by omega)) (NiceAll.cons ns (NiceAll.cons ss (NiceAll.cons pr (NiceAll.cons (nice_int (i := (spanN js : Int)) (by omega) (by omega)) (NiceAll.cons page (NiceAll.cons (nice_bool (b := true)) (NiceAll.cons (nice_str (plain_repr _ _) lr) (NiceAll.nil (w := 0)))))))))))
  exact all.fits (by decide) (by decide)
end Ts
namespace Ts
open PySem PySem.Spec PyProof.Rows L2
/-! ## works bent a little -/
theorem Good.sub {d : Nat} {js ks : List Job} (G : Good d js) (h : ks.Sublist js) : Good d ks :=
  ⟨G.nd.sublist (h.map _), fun j hj => G.tag j (h.subset hj), fun j hj => G.part j (h.subset hj)⟩
/-! ## a page tells its works -/
/-! ## pairs of hands and works, as data -/
/-! ## lists cut and joined -/
theorem cut_from {xs : List V} {i : Nat} (h : i ≤ xs.length) : cutV xs (some (i : Int)) none = xs.drop i := by
  unfold cutV
  rw [HT.sIx_none, HT.sIx_nat, Nat.min_eq_left h, List.take_of_length_le (by rw [List.length_drop]; omega)]
/-! ## two cells out of sight; cells that are new -/
def hd (c b : Addr) (H : Hp) : Hp := hid c (hid b H)
theorem hd_ne {a c b : Addr} {H : Hp} (h : a ≠ c) (g : a ≠ b) : hd c b H a = H a := (hid_ne h).trans (hid_ne g)
theorem hd_some {a c b : Addr} {H : Hp} {o : HO} (h : hd c b H a = some o) : a ≠ c ∧ a ≠ b ∧ H a = some o := by
  obtain ⟨n, h⟩ := hid_some h
  obtain ⟨m, h⟩ := hid_some h
  exact ⟨n, m, h⟩
theorem But.hd {c b : Addr} {H H' : Hp} (x : But b H H') : Same (Ts.hd c b H) (Ts.hd c b H') := fun a o h => by
  obtain ⟨n, m, h⟩ := hd_some h
  rw [hd_ne n m]; exact x a o m h
end Ts
namespace Ts
open PySem PySem.Spec PyProof.Rows L2
/-! ## a promise that says less -/
theorem Has.imp {P : Program} {w : World} {K : PySem.W.Frag} {mg : Str → Option Value} {base : Heap} {k : Nat} {x : Str} {ps : List Str} {sp sp' : Sp} (A : Has P w K mg base k x ps sp) (h : ∀ vs H Q E, sp' vs H Q E → sp vs H Q E) : Has P w K mg base k x ps sp' := by
  obtain ⟨f, fd, F, hm, hk, hb⟩ := A.ex
  exact ⟨f, fd, F.imp h, hm, hk, hb⟩
/-! ## a work put among others -/
def setJ (js : List Job) (j : Job) : List Job := if j.1 ∈ js.map (·.1) then js.map (fun x => if x.1 = j.1 then j else x) else js ++ [j]
theorem setJ_names (js : List Job) (j : Job) : (setJ js j).map (·.1) = if j.1 ∈ js.map (·.1) then js.map (·.1) else js.map (·.1) ++ [j.1] := by
  unfold setJ
  split
  · rw [List.map_map]
    refine List.map_congr_left fun x _ => ?_
    show (if x.1 = j.1 then j else x).1 = x.1
    split
    · rename_i h; exact h.symm
    · rfl
  · rw [List.map_append]; rfl
theorem setJ_mem {js : List Job} {j x : Job} (h : x ∈ setJ js j) : x = j ∨ x ∈ js := by
  unfold setJ at h
  split at h
  · obtain ⟨y, hy, e⟩ := List.mem_map.mp h
    split at e
    · exact .inl e.symm
    · exact .inr (e ▸ hy)
  · rcases List.mem_append.mp h with h | h
    · exact .inr h
    · exact .inl (List.mem_singleton.mp h)
theorem Good.set {d : Nat} {js : List Job} {j : Job} (G : Good d js) (ht : IsTag j.1) (hp : GoodPart d j.2.1 j.2.2) : Good d (setJ js j) := by
  refine ⟨?_, fun x hx => ?_, fun x hx => ?_⟩
  · rw [setJ_names]
    split
    · exact G.nd
    · rename_i h
      rw [List.nodup_append]
      refine ⟨G.nd, by simp, fun a ha b hb e => h ?_⟩
      rw [← List.mem_singleton.mp hb, ← e]; exact ha
  · rcases setJ_mem hx with h | h
    · rw [h]; exact ht
    · exact G.tag x h
  · rcases setJ_mem hx with h | h
    · rw [h]; exact hp
    · exact G.part x h
/-! ## dicts of works -/
theorem KvsOf.mono {K : PySem.W.Frag} {H H' : Hp} {kvs : List (Key × V)} {js : List Job} (h : KvsOf K H kvs js) (s : Same H H') : KvsOf K H' kvs js := ⟨h.1, h.2.mono s⟩
theorem KvsOf.length {K : PySem.W.Frag} {H : Hp} {kvs : List (Key × V)} {js : List Job} (h : KvsOf K H kvs js) : kvs.length = js.length := by
  have := congrArg List.length h.1
  rw [List.length_map, List.length_map] at this; exact this
/-! ## promises -/
/-- a lot of so many hands and such works, new -/
def newLot (K : PySem.W.Frag) (C : Addr) (H : Hp) (Q : VK) (n : Nat) (js : List Job) : Prop := ∀ (x : Addr) (H' : Hp), H x = none → Same H H' → LotAt K C H' x n js → Q (.ref x) H'
end Ts
namespace Ts
open PySem PySem.Spec PyProof.Rows L2
/-! ## often wanted -/
theorem Bas.on {b : Addr} {H H' : Hp} (h : Bas H b) (s : Same H H') : Bas H' b := by
  obtain ⟨x, y, z, e⟩ := h
  exact ⟨x, y, z, s _ _ e⟩
theorem Bas.off {b p : Addr} {H : Hp} (h : Bas H b) (hp : H p = none) : p ≠ b := by
  obtain ⟨x, y, z, e⟩ := h
  exact (ne_of_none e hp).symm
theorem But.trans' {b : Addr} {H H1 H2 : Hp} (x : But b H H1) (s : Same H1 H2) : But b H H2 := x.trans (But.of_same s)
theorem hid_put {b : Addr} {H : Hp} {o : HO} : Same (hid b H) (hid b (upd H b o)) := fun a u e => by
  obtain ⟨n, e⟩ := hid_some e
  rw [hid_ne n, upd_ne n]; exact e
theorem hid_new {b : Addr} {H H' : Hp} (s : Same H H') (h : H b = none) : Same H (hid b H') := fun a u e => by
  rw [hid_ne (ne_of_none e h)]; exact s _ _ e
theorem hid_same {b : Addr} {H H' : Hp} (s : Same H H') : Same (hid b H) (hid b H') := (But.of_same s : But b H H').hid
section
variable {K : PySem.W.Frag} {mg : Str → Option Value} {C : Addr} {H : Hp} {Q : VK} {x y : Addr} {m n : Nat} {js ks : List Job}
theorem LotAt.kind (T : LotC K mg C) (I : LotI K C) (L : LotAt K C H x n js) : TyX K H (.ref x) (.ref C) := by
  obtain ⟨dx, pn, ps, pt, ha, _⟩ := L.ex
  exact .base (.ins ha T.cl I.ha I.hn I.htk I.hm)
end
/-! ## a work put back as it was -/
/-! ## pairs of a list, as a dict -/
end Ts
namespace Ts
open PySem PySem.Spec PyProof.Rows L2
/-! ## rows of numbers sorted, of any lengths, as many as there are -/
section
variable {prog : Program} {w : World} {A : Around} {E : Value → Shared → Prop} {s : Shared}
theorem rows_lex {Q : Bool → Shared → Prop} {b fin : Bool} {us vs : List Value} {ns ms : List Int} (i : Nat) (hu : IntsAre us ns) (hv : IntsAre vs ms) (hf : fin = decide (ns.length < ms.length)) (h : Q (HT.lexLt ns ms) s) :
    PySem.W.KatLex prog w A b fin Q (us.zip vs) i s := by
  induction hu generalizing vs ms i with
  | nil =>
    cases hv with
    | nil => rw [HT.lexLt_nil_nil] at h; rw [hf]; exact PySem.W.kat_nil h
    | cons q t hv => rw [HT.lexLt_nil_cons] at h; rw [hf, decide_eq_true (by simp)]; exact PySem.W.kat_nil h
  | @cons p t us ns hu ih =>
    cases hv with
    | nil => rw [HT.lexLt_cons_nil] at h; rw [hf, decide_eq_false (by simp)]; exact PySem.W.kat_nil h
    | @cons q t2 vs ms hv =>
      have hf2 : fin = decide (ns.length < ms.length) := by rw [hf]; simp
      show PySem.W.KatLex prog w A b fin Q ((Value.int p t, Value.int q t2) :: us.zip vs) i s
      rw [HT.lexLt_cons] at h
      refine PySem.W.kat_cons (wpAny_eqBool_int ?_)
      by_cases e : p = q
      · rw [if_pos e] at h
        rw [e, beq_self_eq_true]
        refine PySem.W.kat_yes ?_
        first | exact ih (i + 1) hv hf2 h | exact ih hf2 (i + 1) hv h | exact ih _ _ (i + 1) hv hf2 h
      · rw [if_neg e] at h
        rw [beq_eq_false_iff_ne.mpr e]
        exact PySem.W.kat_no (TS.oneLt_ints _ h)
def ltL {α : Type} (k : α → List Int) (x y : α) : Bool := HT.lexLt (k x) (k y)
theorem rows_cmp {vs : List Value} {k : Value → List Int} (hp : ∀ v ∈ vs, TS.TupInts s.heap v (k v)) : SrtO.Cmp prog w A s (tuples' true) (fun p => p.1 ∈ vs) (SrtO.lt2 (ltL k)) := by
  intro p q h1 h2
  have r1 := hp _ h1
  have r2 := hp _ h2
  show wpAny (model prog w) A (keyLt' (tuples' true) p.1 q.1) (fun r s' => s' = s ∧ r = HT.lexLt (k p.1) (k q.1)) (fun _ _ => False) s
  generalize k p.1 = ns at r1 ⊢
  generalize k q.1 = ms at r2 ⊢
  obtain ⟨a, xs, e1, ⟨o, ho, hc, n, hd⟩, i1⟩ := r1
  obtain ⟨b, ys, e2, ⟨o2, ho2, hc2, n2, hd2⟩, i2⟩ := r2
  rw [e1, e2]
  refine PySem.W.kat_lt ho hd ho2 hd2 (rows_lex 0 i1 i2 ?_ ⟨rfl, rfl⟩)
  have l1 := i1.length
  have l2 := i2.length
  rw [Array.length_toList] at l1 l2
  rw [l1, l2]
theorem rows_first {h : Heap} : ∀ {vs : List Value}, (∀ v ∈ vs, ∃ ns, TS.TupInts h v ns ∧ 1 ≤ ns.length) → ∃ fs, PySem.W.KatTups h vs fs ∧ fs.length = vs.length ∧ ∀ f ∈ fs, ∃ n t, f = Value.int n t
  | [], _ => ⟨[], PySem.W.KatTups.nil, rfl, fun f z => absurd z (by simp)⟩
  | v :: vs, g => by
    obtain ⟨fs, k1, k2, k3⟩ := rows_first (vs := vs) fun u z => g u (List.mem_cons_of_mem _ z)
    obtain ⟨ns, ⟨a, xs, rfl, ⟨o, ho, hc, n, hd⟩, hi⟩, hl⟩ := g v List.mem_cons_self
    cases e : xs.toList with
    | nil =>
      rw [e] at hi
      cases hi
      exact absurd hl (by decide)
    | cons y ys =>
      obtain ⟨m, t, hy⟩ := hi.all y (by rw [e]; exact List.mem_cons_self)
      have x0 : xs[0]? = some y := by
        have z := congrArg (fun l : List Value => l[0]?) e
        simpa using z
      refine ⟨y :: fs, PySem.W.KatTups.cons ho hc hd x0 k1, by rw [List.length_cons, List.length_cons, k2], fun f z => ?_⟩
      rcases List.mem_cons.mp z with rfl | z
      · exact ⟨m, t, hy⟩
      · exact k3 f z
theorem rows_able {a : Addr} {vs : List Value} {k : Value → List Int} (h0 : 0 < vs.length) (hp : ∀ v ∈ vs, TS.TupInts s.heap v (k v) ∧ 1 ≤ (k v).length) (ha : ∀ o, s.heap.get? a = some o → o.cls ≠ .type "tuple") : SrtO.SortableO prog w A s a vs (ltL k) := by
  intro h2 keep
  have g : ∀ v ∈ vs, TS.TupInts h2 v (k v) := fun v z => (hp v z).1.keeps fun b o e c => keep b o (fun y => by subst y; exact ha o e c) e
  obtain ⟨fs, k1, k2, k3⟩ := rows_first (h := h2) (vs := vs) fun v z => ⟨_, g v z, (hp v z).2⟩
  refine ⟨tuples' true, fun Q E hq => ?_, rows_cmp g⟩
  refine PySem.W.kat_kind (T := .type "int") k1 (by omega) (fun f z => ?_) (by rfl) ?_
  · obtain ⟨x, t, rfl⟩ := k3 f z
    exact PySem.W.Looks.now
  · have e : (Value.type "int" != Value.type "tuple") = true := by first | decide +kernel | rfl | decide
    rw [e]; exact hq
end
/-! ## a list walked: the outer and the inner loop of a comprehension -/
end Ts
namespace PySem
open Sem (wp)
end PySem
namespace Ts
open PySem PySem.Spec PyProof.Rows L2
/-! ## tuples put together, also with empty ones -/
section
variable {prog : Program} {w : World} {A : Around} {E : Value → Shared → Prop} {s : Shared}
theorem cat_none {t b : Addr} {vs : List Value} {Q : Value → Shared → Prop} (ht : IsTup s.heap t #[]) (hb : IsTup s.heap b vs.toArray) (h : Q (.ref b) s) : wpAny (model prog w) A (binaryOp .Add (.ref t) (.ref b)) Q E s := by
  obtain ⟨⟨c1, d1, k1, l1⟩, o1, e1, n1, g1⟩ := id ht
  obtain ⟨⟨c2, d2, k2, l2⟩, o2, e2, n2, g2⟩ := id hb
  simp only at e1 g1 e2 g2
  subst e1 g1 e2 g2
  exact concat_meets ⟨_, o1, rfl⟩ ⟨_, o2, rfl⟩ noFill_tuple_add seq_tuple_add PySem.F.slot_tuple_add PySem.F.entry_tuple_add (PySem.F.args_tuple_add_2 _ _) (tuple_addW0 t b #[] vs.toArray n1 n2 d1 d2 l1 l2 (by simp)) ⟨o1, o2, h⟩
end
def rCatU (K : PySem.W.Frag) : R2 := fun x y H Q => ∃ a b xs ys, x = .ref a ∧ y = .ref b ∧ SqT K H a xs ∧ SqT K H b ys ∧ xs.length + ys.length ≤ sizeLine ∧
  ∀ p H', Same H H' → (p = a ∨ p = b ∨ H p = none) → SqT K H' p (xs ++ ys) → Q (.ref p) H'
theorem op_catU {X : Cx} : OpR X (binaryOp .Add) (rCatU X.K) := by
  intro pins s σ H x y v u Q I rx ry h
  obtain ⟨a, b, xs, ys, rfl, rfl, ha, hb, hz, q⟩ := id h
  by_cases hx : xs = []
  · subst hx
    cases rx
    cases ry
    obtain ⟨its, r1, p1, _⟩ := I.tuple ha
    obtain ⟨its2, r2, p2, _⟩ := I.tuple hb
    cases r1
    exact cat_none p1 p2 ⟨.ref b, H, I, rfl, q b H (fun _ _ z => z) (.inr (.inl rfl)) hb⟩
  · refine op_catT pins s σ H _ _ v u Q I rx ry ⟨a, b, xs, ys, rfl, rfl, ha, hb, hx, hz, fun e => ?_, fun _ p hp => q p _ (same_new hp) (.inr (.inr hp)) (SqT.of upd_same)⟩
    subst e
    exact q a H (fun _ _ z => z) (.inl rfl) (by rw [List.append_nil]; exact ha)
theorem op_catUK {X : Cx} {K : PySem.W.Frag} (h : X.K = K) : OpR X (binaryOp .Add) (rCatU K) := by subst h; exact op_catU
end Ts
namespace Ts
open PySem PySem.Spec PyProof.Rows L2
theorem SqT.offL {K : PySem.W.Frag} {H : Hp} {m a : Addr} {us xs : List V} (h : SqT K H a xs) (e : H m = some (.lst us)) : SqT K (hid m H) a xs := by
  rcases h with (h | ⟨o, h⟩) | h
  · have n : a ≠ m := fun z => by rw [z, e] at h; cases h
    exact .inl (.inl (by rw [hid_ne n]; exact h))
  · have n : a ≠ m := fun z => by rw [z, e] at h; cases h
    exact .inl (.inr ⟨o, by rw [hid_ne n]; exact h⟩)
  · exact .inr h
/-! ## rows: one of each -/
abbrev rowD (r : List Int) : PyData := .tuple (r.map PyData.int)
/-- each row, with each number of the next ones behind it -/
def growR (rows : List (List Int)) (o : List Int) : List (List Int) := rows.flatMap fun r => o.map fun m => r ++ [m]
def picksR (os : List (List Int)) : List (List Int) := os.foldl growR [[]]
/-! ## the numbers that keep a work -/
/-- the numbers of ticks with which a work is kept at t -/
def keptL (e p : Nat) (t : Int) : List Int := if t * e % p = 0 then [lowI e p t] else [lowI e p t, lowI e p t + 1]
theorem high_eq {e p : Nat} {t : Int} (hp : 0 < p) : highI e p t = if t * e % p = 0 then lowI e p t else lowI e p t + 1 := by
  unfold highI lowI
  have hp : (0 : Int) < p := by omega
  have h1 := Int.mul_ediv_add_emod (t * e) p
  have h2 := Int.emod_nonneg (t * e) (Int.ne_of_gt hp)
  have h3 := Int.emod_lt_of_pos (t * e) hp
  generalize (t * (e : Int)) = n at *
  generalize n / (p : Int) = q at *
  generalize n % (p : Int) = r at *
  split
  · rename_i h
    rw [show n + p - 1 = (p - 1 : Int) + p * q by omega, Int.add_mul_ediv_left _ _ (Int.ne_of_gt hp), Int.ediv_eq_zero_of_lt (by omega) (by omega)]; omega
  · rename_i h
    rw [show n + p - 1 = (r - 1 : Int) + p * (q + 1) by rw [Int.mul_add]; omega, Int.add_mul_ediv_left _ _ (Int.ne_of_gt hp), Int.ediv_eq_zero_of_lt (by omega) (by omega)]; omega
/-- the options of all works at t -/
def optsR (js : List Job) (t : Int) : List (List Int) := js.map fun j => keptL j.2.1 j.2.2 t
def rowsR (js : List Job) (t : Int) : List (List Int) := picksR (optsR js t)
/-! ## what is asked -/
end Ts
namespace Ts
open PySem PySem.Spec PyProof.Rows L2
/-! ## rows of great numbers, written and compared -/
/-- data of short texts and of numbers of up to forty digits -/
structure Fine (w e : Nat) (d : PyData) : Prop where
  sh : d.showable = true
  lv : d.leavesShort 40 = true
  wt : d.weight ≤ w
  dp : d.depth ≤ e
  nd : d.hasDict = false
structure FineAll (w e : Nat) (ds : List PyData) : Prop where
  sh : PyData.showableAll ds = true
  lv : PyData.leavesShortAll 40 ds = true
  wt : PyData.weightAll ds ≤ w
  dp : PyData.depthAll ds ≤ e
  nd : PyData.hasDictAll ds = false
theorem FineAll.nil {w e : Nat} : FineAll w e [] := ⟨rfl, rfl, Nat.zero_le _, Nat.zero_le _, rfl⟩
theorem FineAll.cons {w w' e : Nat} {d : PyData} {ds : List PyData} (h : Fine w e d) (g : FineAll w' e ds) : FineAll (w + 1 + w') e (d :: ds) := by
  have h1 := h.wt
  have h2 := g.wt
  have h3 := h.dp
  have h4 := g.dp
  exact ⟨by show (d.showable && PyData.showableAll ds) = true; rw [h.sh, g.sh]; rfl, by show (d.leavesShort 40 && PyData.leavesShortAll 40 ds) = true; rw [h.lv, g.lv]; rfl, by show d.weight + 1 + PyData.weightAll ds ≤ w + 1 + w'; omega,
    by show max d.depth (PyData.depthAll ds) ≤ e; omega, by show (d.hasDict || PyData.hasDictAll ds) = false; rw [h.nd, g.nd]; rfl⟩
theorem FineAll.tup {w e : Nat} {ds : List PyData} (g : FineAll w e ds) : Fine w (e + 1) (.tuple ds) := ⟨g.sh, g.lv, g.wt, Nat.succ_le_succ g.dp, g.nd⟩
theorem FineAll.lst {w e : Nat} {ds : List PyData} (g : FineAll w e ds) : Fine w (e + 1) (.list ds) := ⟨g.sh, g.lv, g.wt, Nat.succ_le_succ g.dp, g.nd⟩
theorem Fine.mono {w w' e e' : Nat} {d : PyData} (h : Fine w e d) (h1 : w ≤ w') (h2 : e ≤ e') : Fine w' e' d := ⟨h.sh, h.lv, Nat.le_trans h.wt h1, Nat.le_trans h.dp h2, h.nd⟩
theorem FineAll.mono {w w' e e' : Nat} {ds : List PyData} (h : FineAll w e ds) (h1 : w ≤ w') (h2 : e ≤ e') : FineAll w' e' ds := ⟨h.sh, h.lv, Nat.le_trans h.wt h1, Nat.le_trans h.dp h2, h.nd⟩
theorem fine_int {e : Nat} {i : Int} (h0 : 0 ≤ i) (h1 : i < 10 ^ 40) : Fine 140 e (.int i) := by
  obtain ⟨a, b⟩ := int_big h0 h1
  refine ⟨a, decide_eq_true b, ?_, Nat.zero_le _, rfl⟩
  show (if i == 0 then 0 else i.natAbs.log2 + 1) ≤ 140
  split
  · omega
  · by_cases z : i.natAbs = 0
    · rw [z]; decide
    · have k : ((10 : Int) ^ 40) = ((10 ^ 40 : Nat) : Int) := by rw [Int.natCast_pow]; rfl
      rw [k] at h1
      have l : i.natAbs < 10 ^ 40 := by generalize 10 ^ 40 = c at h1 ⊢; omega
      have := (Nat.log2_lt z).mpr (Nat.lt_trans l (by decide +kernel : 10 ^ 40 < 2 ^ 139))
      omega
theorem fine_ints : ∀ {l : List Int}, (∀ i ∈ l, 0 ≤ i ∧ i < 10 ^ 40) → FineAll (141 * l.length) 0 (l.map PyData.int)
  | [], _ => FineAll.nil
  | i :: l, h => by
    obtain ⟨a, b⟩ := h i List.mem_cons_self
    exact (FineAll.cons (fine_int (e := 0) a b) (fine_ints (l := l) fun x hx => h x (List.mem_cons_of_mem _ hx))).mono (by rw [List.length_cons]; omega) (Nat.le_refl _)
theorem fine_all {w e : Nat} : ∀ {ds : List PyData}, (∀ d ∈ ds, Fine w e d) → FineAll ((w + 1) * ds.length) e ds
  | [], _ => FineAll.nil
  | d :: ds, h => by
    refine (FineAll.cons (h d List.mem_cons_self) (fine_all (ds := ds) fun x hx => h x (List.mem_cons_of_mem _ hx))).mono ?_ (Nat.le_refl _)
    rw [List.length_cons, Nat.mul_add]; omega
theorem Fine.fits {w e : Nat} {d : PyData} (h : Fine w e d) (h1 : w ≤ 300000) (h2 : e < 60) : d.showable = true ∧ d.hasDict = false ∧ d.depth < 60 ∧ d.shown.length ≤ sizeLine := by
  refine ⟨h.sh, h.nd, Nat.lt_of_le_of_lt h.dp h2, ?_⟩
  have a := PyData.shown_le 40 (by decide) d h.lv
  have b := h.wt
  rw [sizeLine_eq]
  omega
theorem fine_rows {rows : List (List Int)} (hl : rows.length ≤ 64) (h6 : ∀ r ∈ rows, r.length ≤ 6) (h : ∀ r ∈ rows, ∀ i ∈ r, 0 ≤ i ∧ i < 10 ^ 40) : Fine 60000 2 (.tuple (rows.map rowD)) := by
  have a := fine_all (ds := rows.map rowD) (w := 846) (e := 1) fun d hd => by
    obtain ⟨r, hr, rfl⟩ := List.mem_map.mp hd
    exact (fine_ints (h r hr)).tup.mono (by have := h6 r hr; omega) (Nat.le_refl _)
  rw [List.length_map] at a
  exact a.tup.mono (by omega) (Nat.le_refl _)
/-! ## equal rows -/
theorem eqv_ints : ∀ (r q : List Int), PyData.eqvAll (r.map PyData.int) (q.map PyData.int) = decide (r = q)
  | [], [] => rfl
  | [], _ :: _ => rfl
  | _ :: _, [] => rfl
  | x :: r, y :: q => by
    show ((x == y) && PyData.eqvAll (r.map PyData.int) (q.map PyData.int)) = _
    rw [eqv_ints r q]
    by_cases h1 : x = y <;> by_cases h2 : r = q <;> simp [h1, h2]
theorem shaped_rows (rows : List (List Int)) : SeqAt.shaped (.tuple (rows.map rowD)) = true := by
  have l1 : ∀ r : List Int, PyData.canLayAll0 (r.map PyData.int) = true := fun r => by
    induction r with
    | nil => rfl
    | cons x r ih => exact ih
  have d1 : ∀ r : List Int, PyData.depthAll (r.map PyData.int) = 0 := fun r => by
    induction r with
    | nil => rfl
    | cons x r ih => show max 0 (PyData.depthAll (r.map PyData.int)) = 0; rw [ih]; rfl
  have l2 : PyData.canLayAll0 (rows.map rowD) = true := by
    induction rows with
    | nil => rfl
    | cons r rows ih => show (PyData.canLayAll0 (r.map PyData.int) && PyData.canLayAll0 (rows.map rowD)) = true; rw [l1, ih]; rfl
  have d2 : PyData.depthAll (rows.map rowD) ≤ 1 := by
    induction rows with
    | nil => exact Nat.zero_le _
    | cons r rows ih =>
      have h : PyData.canLayAll0 (rows.map rowD) = true := by
        have l3 : (PyData.canLayAll0 (r.map PyData.int) && PyData.canLayAll0 (rows.map rowD)) = true := l2
        rw [l1] at l3; exact l3
      have := ih h
      show max (PyData.depthAll (r.map PyData.int) + 1) (PyData.depthAll (rows.map rowD)) ≤ 1
      rw [d1]; omega
  show (PyData.canLayAll0 (rows.map rowD) && decide (PyData.depthAll (rows.map rowD) + 1 ≤ 64)) = true
  rw [l2, decide_eq_true (by omega)]; rfl
/-! ## draws out of a great many -/
end Ts
namespace Ts
open PySem PySem.Spec PyProof.Rows L2
/-! ## a tuple turned about: t[::-1] -/
section
variable {prog : Program} {w : World} {A : Around} {E : Value → Shared → Prop} {s : Shared}
theorem back_adjust (n : Nat) : Builtin.Slice.sliceAdjust none none (-1) (n : Int) = ((n : Int) - 1, -1) := rfl
theorem back_places (n : Nat) : Builtin.Slice.slicePlaces ((n : Int) - 1) (-1) (-1) = n := by
  unfold Builtin.Slice.slicePlaces
  have h1 : ((-1 : Int) > 0) = False := by simp
  simp only [h1, if_false]
  by_cases h : n = 0
  · subst h; rfl
  · first
      | (simp; omega)
      | (rw [if_pos (by omega)]; omega)
theorem back_applied {sl : Addr} {vs : Value} {n : Nat} {Q : Int × Int × Nat → Shared → Prop} (hs : s.heap.IsSliceOf sl .none .none vs) (pv : IsPart vs (some (-1)))
    (h : Q ((n : Int) - 1, -1, n) s) : wpAny (model prog w) A (Builtin.Slice.sliceApplied (.ref sl) (pure (n : Int))) Q E s := by
  obtain ⟨os, hos, hcs, hds⟩ := id hs
  unfold Builtin.Slice.sliceApplied Builtin.Slice.sliceFields
  refine wpAny_bind (wpAny_bind (wpAny_field hos hds (x := .none) rfl (wpAny_bind (wpAny_field hos hds (x := .none) rfl (wpAny_bind (wpAny_field hos hds (x := vs) rfl (wpAny_pure ?_)))))))
  refine wpAny_bind (HT.slicePart_ pv ?_)
  show wpAny _ _ (if ((-1 : Int) == 0) = true then _ else _) _ _ s
  rw [if_neg (by decide)]
  refine wpAny_bind (slicePart_none (wpAny_bind (slicePart_none (wpAny_bind (wpAny_pure ?_)))))
  show wpAny _ _ (match Builtin.Slice.sliceAdjust none none (-1) (n : Int) with | (lo, hi) => pure (lo, (-1 : Int), Builtin.Slice.slicePlaces lo hi (-1))) _ _ s
  rw [back_adjust]
  show wpAny _ _ (pure ((n : Int) - 1, (-1 : Int), Builtin.Slice.slicePlaces ((n : Int) - 1) (-1) (-1))) _ _ s
  rw [back_places]
  exact wpAny_pure h
theorem back_pick (xs : Array Value) : ((List.range xs.size).filterMap fun (m : Nat) => xs[((xs.size : Int) - 1 + (m : Int) * (-1)).toNat]?).toArray = xs.toList.reverse.toArray := by
  have e : (fun (m : Nat) => xs[((xs.size : Int) - 1 + (m : Int) * (-1)).toNat]?) = fun m => (xs[·]?) (xs.size - 1 - m) := by
    funext m
    have : ((xs.size : Int) - 1 + (m : Int) * (-1)).toNat = xs.size - 1 - m := by omega
    rw [this]
  have e2 : (List.range xs.size).filterMap (fun m => (xs[·]?) (xs.size - 1 - m)) = ((List.range xs.size).map fun k => xs.size - 1 - k).filterMap (xs[·]?) := by
    rw [List.filterMap_map]; rfl
  rw [e, e2, PySem.W.krv_range, List.filterMap_reverse, PySem.W.krv_all]
theorem getItem_back {t sl : Addr} {items : Array Value} {vs : Value} {Q : Value → Shared → Prop} (ht : IsTup s.heap t items) (hs : s.heap.IsSliceOf sl .none .none vs) (pv : IsPart vs (some (-1)))
    (h : Q (.ref s.heap.objs.size) { s with heap := s.heap.push { cls := .type "tuple", data := .seq items.toList.reverse.toArray } }) (hsz : items.size ≤ sizeLine) : wpAny (model prog w) A (getItem (.ref t) (.ref sl)) Q E s := by
  have fit : sizeOk (.seq items.toList.reverse.toArray) := by
    show items.toList.reverse.toArray.size ≤ sizeLine
    rw [List.size_toArray, List.length_reverse, Array.length_toList]; exact hsz
  obtain ⟨os, hos, hcs, hds⟩ := id hs
  have hTs : s.TypeIs (.ref sl) "slice" := ⟨os, hos, hcs⟩
  unfold getItem
  try with_reducible refine wpAny_holding ?_
  first | refine wpAny_bind (wpAny_pure ?_) | skip
  refine wpAny_bind (wpAny_sequenceKey ht.typeIs (by decide) ?_)
  refine wpAny_bind (wpAny_callSpecial?_slot (name := Str.ofString "__getitem__") ht.typeIs PyProof.Rows.slot_tuple_getitem (wpAny_call_entry PyProof.Rows.slot_tuple_getitem ht.typeIs entry_tuple_getitem ?_ (args_tuple_getitem _ _)))
  show wpAny _ _ (Builtin.Tuple.tupleItemsOf (.ref t) >>= _) _ _ s
  refine wpAny_bind (tupleItemsOf_ ht (wpAny_bind (wpAny_typeOf hTs ?_)))
  rw [if_pos (by decide)]
  refine wpAny_bind (back_applied hs pv ?_)
  show wpAny _ _ (if (((items.size : Int) - 1) == 0 && (-1 : Int) == 1 && items.size == items.size) = true then _ else _) _ _ s
  rw [if_neg (by rw [show ((-1 : Int) == 1) = false from rfl, Bool.and_false, Bool.false_and]; decide), back_pick]
  first
    | exact wpAny_bind (m := Builtin.Tuple.tupleExact _) (wpAny_newObj_type (wpAny_pure ⟨_, rfl, wpAny_pure h⟩) fit)
    | exact wpAny_bind (m := Builtin.Tuple.tupleExact _) (wpAny_newObj_type (wpAny_bind (wpAny_pure (wpAny_pure ⟨_, rfl, wpAny_pure h⟩))) fit)
    | exact wpAny_bind (wpAny_bind (m := Builtin.Tuple.tupleExact _) (wpAny_newObj_type (wpAny_pure (wpAny_pure ⟨_, rfl, wpAny_pure h⟩)) fit))
    | exact wpAny_bind (wpAny_bind (m := Builtin.Tuple.tupleExact _) (wpAny_newObj_type (wpAny_pure ⟨_, rfl, wpAny_pure h⟩) fit))
end
def tRevT (K : PySem.W.Frag) (te : TE) : TE := fun σ H Q => te σ H fun x H1 => ∃ a xs, x = .ref a ∧ SqT K H1 a xs ∧ ∀ p, H1 p = none → Q (.ref p) (upd H1 p (.tup xs.reverse))
theorem pe_revT {X : Cx} {e : Expr} {te : TE} {k : Nat} {p1 p2 p3 pos : Pos} (he : PE X e te) : PE X (.Subscript e (.Slice none none (some (.UnaryOp .USub (.Constant (.int 1) k p1) p2)) p3) pos) (tRevT X.K te) := by
  refine ⟨fun pins s σ H Q I h => ?_⟩
  refine Subscript_ (thn (he.run pins s σ H _ I h) fun v s1 ⟨x, H1, I1, r1, q1⟩ => ?_)
  obtain ⟨a, xs, ex, hx, q⟩ := q1
  subst ex
  cases r1
  have hst : PO X (some (.UnaryOp .USub (.Constant (.int 1) k p1) p2)) (tPart (tUn (rU fun i => .int (-i)) (tC (.int 1)))) := po_some (pe_un un_neg pe_int)
  refine wpAny_Slice (thn (po_none.run pins s1 σ H1 (fun o H2 => o = none ∧ H2 = H1) I1 ⟨rfl, rfl⟩) fun vl s2 ⟨l, H2, I2, pl, el, e2⟩ => ?_)
  subst el e2
  refine thn (po_none.run pins s2 σ H2 (fun o H3 => o = none ∧ H3 = H2) I2 ⟨rfl, rfl⟩) fun vu s3 ⟨u, H3, I3, pu, eu, e3⟩ => ?_
  subst eu e3
  refine thn (hst.run pins s3 σ H3 (fun o H4 => o = some (-1) ∧ H4 = H3) I3 ⟨1, rfl, -1, rfl, rfl, rfl⟩) fun vs s4 ⟨o, H4, I4, ps, eo, e4⟩ => ?_
  subst eo e4
  have I5 : Inv X pins σ H4 { s4 with heap := s4.heap.push { cls := .type "slice", data := .fields #[vl, vu, vs] } } := I4.kept (t' := s4.toks) fun b ob q => Heap.get?_push_of_some _ q
  obtain ⟨its, r, ht, hz⟩ := I5.tuple hx
  have hlen := r.length
  cases pl
  cases pu
  show wpAny (model X.prog X.w) X.A (subscriptTail e (.Slice none none (some (.UnaryOp .USub (.Constant (.int 1) k p1) p2)) p3) (.ref a) (.ref s4.heap.objs.size)) (EP X pins σ Q) X.xe { s4 with heap := s4.heap.push { cls := .type "slice", data := .fields #[.none, .none, vs] } }
  refine tail_any (ops := [.ref a, .ref s4.heap.objs.size]) ht.typeIs (PyProof.Rows.slot_tuple_getitem.lookup) ?_ (by with_unfolding_all rfl)
  refine getItem_back ht (Heap.IsSliceOf.new _ .none .none vs) ps ?_ (by rw [List.size_toArray]; omega)
  refine ⟨.ref _, _, I5.laid (t' := s4.toks) (o := .tup xs.reverse) (fun b ob q => Heap.get?_push_of_some _ q) (Nat.le_refl _) ?_, rfl, q _ (I5.hok.fresh (Nat.le_refl _))⟩
  exact ⟨by rw [List.length_reverse]; exact hz, _, r.reverse, IsTup.new _ _⟩
end Ts
namespace PySem
open Sem (wp)
namespace TsEnum
set_option maxHeartbeats 1000000 in
theorem enum_new1 {v : Value} {o : Obj} {H : Heap → Prop} (B : Begins v o H) :
    Meets (Builtin.«enumerate.__new__» ⟨[.type "enumerate", v], []⟩) (fun _ R s => H s.heap ∧
      R (.ok (.ret (.ref (s.heap.push o).objs.size))) { s with heap := (s.heap.push o).push { cls := .type "enumerate", data := .fields #[.none, .bool false, .ref s.heap.objs.size, rawInt 0, .none, .none] } }) :=
  .of_wp fun prog w A R s h => by
    obtain ⟨hp, g, d, tk, os⟩ := s; obtain ⟨h1, h⟩ := h
    have es := sub_enumerate
    have q1 : ∀ {A2 : Around} {E : Value → Shared → Prop} {Q : Value → Shared → Prop}, Q (.ref hp.objs.size) ⟨hp.push o, g, d, tk, os⟩ → wpAny (model prog w) A2 (pyIter v) Q E ⟨hp, g, d, tk, os⟩ := fun q => B.iter prog w _ _ ⟨hp, g, d, tk, os⟩ _ h1 q
    wp_walk using q1
    refine wpAny_stack_any fun st => wpAny_pure ?_
    split
    · rename_i c _ _ _ _ _
      cases (c == Value.type "enumerate")
      · (wp_walk using q1); exact ⟨_, rfl, h⟩
      · (wp_walk using q1); exact ⟨_, rfl, h⟩
    · (wp_walk using q1); exact ⟨_, rfl, h⟩
section
variable {prog : Program} {w : World} {A : Around} {E : Value → Shared → Prop} {s : Shared}
theorem enum_one {v : Value} {o : Obj} {H : Heap → Prop} {Q : Value → Shared → Prop} (B : Begins v o H) (h1 : H s.heap)
    (h : ∀ h2, IsEnum h2 (s.heap.objs.size + 1) s.heap.objs.size 0 .none → h2.get? s.heap.objs.size = some o → h2.objs.size = s.heap.objs.size + 2 → (∀ b o, s.heap.get? b = some o → h2.get? b = some o) → Q (.ref (s.heap.objs.size + 1)) { s with heap := h2 }) :
    wpAny (model prog w) A (call (.type "enumerate") [v]) Q E s := by
  refine callType_new F.called_enumerate (by decide) (F.typeCall_enumerate_1 _) (F.newCall_enumerate_1 _) (fun obj => F.args_object_init_2 obj _) F.entry_enumerate_new (enum_new1 B) ⟨h1, ?_⟩
  have hz : (s.heap.push o).objs.size = s.heap.objs.size + 1 := Heap.size_push ..
  show _ ∧ _
  rw [hz]
  have he : IsEnum ((s.heap.push o).push { cls := .type "enumerate", data := .fields #[.none, .bool false, .ref s.heap.objs.size, rawInt 0, .none, .none] }) (s.heap.objs.size + 1) s.heap.objs.size 0 .none := by
    have z := Heap.get?_push_size (s.heap.push o) (o := { cls := .type "enumerate", data := .fields #[.none, .bool false, .ref s.heap.objs.size, rawInt 0, .none, .none] }) rfl
    rw [hz] at z; exact z
  exact ⟨⟨_, he, rfl⟩, h _ he (Heap.get?_push_of_some _ (Heap.get?_push_size _ B.free)) (by rw [Heap.size_push, hz]) fun b o x => Heap.get?_push_of_some _ (Heap.get?_push_of_some _ x)⟩
end
end TsEnum
end PySem
namespace Ts
open PySem PySem.Spec PyProof.Rows L2
/-- the tuple at a, each item in a new pair with its number, from c on -/
def IteT (K : PySem.W.Frag) (a : Addr) (c : Int) : It :=
  ⟨fun i H => ∃ (xs : List V) (x : V), SqT K H a xs ∧ xs[i]? = some x, fun i H v H2 => ∃ T x, v = .ref T ∧ H T = none ∧ H2 = upd H T (.tup [.int (c + (i : Nat)), x]) ∧ ∀ xs, SqT K H a xs → xs[i]? = some x, fun i H => ∃ xs : List V, SqT K H a xs ∧ xs.length ≤ i⟩
theorem turn_enumT {P : Program} {w : World} {K : PySem.W.Frag} {elts : List Expr} {kk : Nat} {tpos : Pos} (a e it : Addr) (c : Int) :
    Turn P w K (.Tuple elts kk tpos) (IteT K a c) [e, it] e (fun i h => (∃ old, IsEnum h e it (c + ((i : Nat) : Int)) old) ∧ h.IsTupleIter it a i ∧ e ≠ it) where
  mem := by simp
  obj := fun i h st b hb => by
    obtain ⟨⟨old, he⟩, ⟨o, ho, hc, hd⟩, _⟩ := st
    have z : b = e ∨ b = it := by simpa using hb
    rcases z with z | z
    · rw [z]; exact ⟨_, he, fun v q => nomatch q⟩
    · rw [z]; exact ⟨o, ho, fun v q => by rw [hd] at q; cases q⟩
  keep := fun i h h2 st k => let ⟨⟨old, he⟩, hi, hne⟩ := st; ⟨⟨old, k e (by simp) _ he⟩, hi.at fun o q => k it (by simp) o q, hne⟩
  item := by
    intro X hP hw hK hc i pins s σ H E I hf st hg
    subst hP hw hK
    obtain ⟨⟨old, he⟩, hit, hne⟩ := st
    obtain ⟨xs, x, hq, hx⟩ := hg
    obtain ⟨its, rv, p, hz⟩ := I.tuple hq
    have p2 : s.heap.IsTuple a its.toArray := p
    obtain ⟨u, hu, ru⟩ := rv.get hx
    have hel : e < s.heap.objs.size := Heap.lt_size he
    have hil : it < s.heap.objs.size := by obtain ⟨_, q, _⟩ := hit; exact Heap.lt_size q
    have nae : a ≠ it := fun z => by
      obtain ⟨o1, e1, c1, _⟩ := hit
      obtain ⟨o2, e2, c2, _⟩ := p2
      rw [z, e1] at e2
      cases e2
      rw [c1] at c2
      exact absurd (Value.type.inj c2) (by decide)
    have hae : e ∉ [it, a] := fun z => by
      have z : e = it ∨ e = a := by simpa using z
      rcases z with z | z
      · exact hne z
      · obtain ⟨o2, e2, c2, _⟩ := p2
        rw [← z, he] at e2
        cases e2
        exact absurd (Value.type.inj c2) (by decide)
    have hlt : i < its.toArray.size := by
      have := (List.getElem?_eq_some_iff.mp hu).1
      simpa using this
    refine wpAny_pyNext_enum_itemC (Draws.tuple (prog := X.prog) (w := X.w) (A := X.A.in1) (show X.A.in1.handled = none from I.ok.hd hc) it a nae its.toArray) he ⟨hit, p2⟩ hlt hne hae fun y h2 tk hy ho st2 hT hsz hk => ?_
    have ey : y = u := by
      have hy2 : its.toArray[i]? = some y := hy
      rw [List.getElem?_toArray, hu] at hy2
      exact (Option.some.inj hy2).symm
    subst ey
    refine ⟨_, rfl, wpAny_letOwnedTupleGo_enum (s := { s with heap := h2, toks := tk + 1 }) ho fun h3 he3 sb => ?_⟩
    have hT2 : h3.get? s.heap.objs.size = some { cls := .type "tuple", data := .seq #[.int (c + (i : Int)) tk, y] } := (sb.2 _ (Nat.ne_of_gt hel)).trans hT
    have new : ObjOk X.prog X.w (upd H s.heap.objs.size (.tup [.int (c + (i : Nat)), x])) h3 s.heap.objs.size (.tup [.int (c + (i : Nat)), x]) :=
      ⟨by show 2 ≤ sizeLine; decide, [.int (c + (i : Int)) tk, y], .cons ⟨_, rfl⟩ (.cons ru .nil), ⟨_, hT2, rfl, _, rfl⟩⟩
    have I1 : Inv X pins σ (upd H s.heap.objs.size (.tup [.int (c + (i : Nat)), x])) { s with heap := h3, toks := tk + 1 } :=
      I.turnedNew (ch := [e, it]) (fun b ob hb q => (sb.2 b (fun z => hb (by simp [z]))).trans (hk b ob (fun z => hb (by simp [z])) (fun z => hb (by simp [z])) q)) hf (Nat.le_refl _) new
    refine ⟨.ref s.heap.objs.size, _, I1, rfl, ⟨_, x, rfl, I.hok.fresh (Nat.le_refl _), rfl, fun ys hy => by rw [I.tuple_inj hy hq]; exact hx⟩, ⟨⟨y, ?_⟩, st2.1.at fun o q => (sb.2 it (Ne.symm hne)).trans q, hne⟩, fun b hb => ?_⟩
    · have e1 : c + ((i + 1 : Nat) : Int) = c + (i : Int) + 1 := by omega
      rw [e1]; exact he3
    · have lt : b < s.heap.objs.size := by
        have z : b = e ∨ b = it := by simpa using hb
        rcases z with z | z
        · rw [z]; exact hel
        · rw [z]; exact hil
      rw [upd_ne (Nat.ne_of_lt lt)]
      exact (hf b hb).1
  done := by
    intro X hP hw hK hc i pins s σ H E I hf st hg
    subst hP hw hK
    obtain ⟨⟨old, he⟩, hit, hne⟩ := st
    obtain ⟨xs, hq, hx⟩ := hg
    obtain ⟨its, rv, p, hz⟩ := I.tuple hq
    have p2 : s.heap.IsTuple a its.toArray := p
    obtain ⟨f0, f1, f2, f3, f4, f5⟩ := hf it (by simp)
    have hl := rv.length
    have hT : s.TypeIs (.ref e) "enumerate" := ⟨_, he, rfl⟩
    unfold pyNext
    refine wpAny_bind (wpAny_attempt (wpAny_callSpecial?_slot (name := Str.ofString "__next__") hT F.slot_enumerate_next (wpAny_call_entry F.slot_enumerate_next hT F.entry_enumerate_next ?_ (F.args_enumerate_next_1 _))))
    show wpAny _ _ (field (.ref e) 2 >>= _) _ _ _
    refine wpAny_bind (wpAny_field he rfl (x := .ref it) rfl ?_)
    refine wpAny_bind (wpAny_nextOf_tuple_end (I.ok.hd hc) hit p2 (by simp; omega) fun h2 x eb hx2 => ?_)
    obtain ⟨o, ho, hcl⟩ := hx2
    refine wpAny_bind (wpAny_isInstance (T := "StopIteration") (b := true) ⟨o, ho, hcl⟩ isSubtype_stop ?_)
    exact wpAny_pure ⟨rfl, I.turned (t' := s.toks) (fun b o hb q => eb b o hb q) f0 f1 f3 f4 f5⟩
  self := fun A i s Q E st h => let ⟨⟨_, he⟩, _⟩ := st; wpAny_pyIter_enum he h
def iEnumT (K : PySem.W.Frag) (ta : TA) : TI := fun σ H R => ta σ H fun vs H1 => ∃ a xs, vs = [.ref a] ∧ SqT K H1 a xs ∧ R (IteT K a 0) H1
section
variable {X : Cx}
theorem pi_enumT {e : Expr} {ta : TA} {p pos tpos : Pos} {elts : List Expr} {kk : Nat} (hg : Gl X "enumerate") (hm : X.mg "enumerate" = none) (ha : PA X [e] ta) (hs : starEach [e] X.env = [(false, eval e X.env)] := by rfl) :
    PI X (.Tuple elts kk tpos) (.Call (.Name "enumerate" p) [e] [] pos) (iEnumT X.K ta) := by
  refine ⟨fun pins s σ H R I h => ?_⟩
  refine Call_ (ld_blt I hg hm boot_enumerate (PyProof.Rows.callWith_type1 (thn (ha.run pos pins s σ H _ I h) fun us s1 ⟨vs, H1, I1, r1, q1⟩ => ?_) hs rfl))
  obtain ⟨a, xs, ex, hq, q⟩ := q1
  subst ex
  rw [Vals.ref1 r1]
  obtain ⟨its, rv, p2, hz⟩ := I1.tuple hq
  refine TsEnum.enum_one (begins_tuple a its.toArray) p2 fun h2 he hit hsz hk => wpAny_pyIter_enum he ?_
  have I2 : Inv X pins σ H1 { s1 with heap := h2 } := I1.kept (t' := s1.toks) hk
  refine ⟨s1.heap.objs.size + 1, [s1.heap.objs.size + 1, s1.heap.objs.size], _, _, H1, rfl, I2, turn_enumT a (s1.heap.objs.size + 1) s1.heap.objs.size 0, ⟨⟨.none, by simpa using he⟩, ⟨_, hit, rfl, rfl⟩, Nat.succ_ne_self _⟩, fun b hb => ?_, q⟩
  have z : b = s1.heap.objs.size + 1 ∨ b = s1.heap.objs.size := by simpa using hb
  have le : s1.heap.objs.size ≤ b := by
    rcases z with z | z
    · rw [z]; exact Nat.le_add_right _ _
    · rw [z]; exact Nat.le_refl _
  exact I1.fpOk le (I1.hok.fresh le)
end
/-- a tuple walked with numbers -/
theorem walk_enumT {K : PySem.W.Frag} {a : Addr} {xs : List V} {c : Int} {g : TG} {tb : TS} {D : Ends} {σ : L2.St} {H : Hp} (Pv : Nat → L2.St → Hp → Prop) (h0 : Pv 0 σ H) (hl : ∀ i σ H, i ≤ xs.length → Pv i σ H → SqT K H a xs)
    (hs : ∀ i x T σ H, xs[i]? = some x → Pv i σ H → H T = none → g (.ref T) σ (upd H T (.tup [.int (c + (i : Nat)), x])) fun σ2 H2 => tb { D with nx := Pv (i + 1), ct := Pv (i + 1), bk := D.nx } σ2 H2) (hd : ∀ σ H, Pv xs.length σ H → D.nx σ H) :
    ∃ W : Nat → Nat → L2.St → Hp → Prop, (∃ m, W 0 m σ H) ∧ ∀ i m σ H, W i m σ H → ((IteT K a c).stop i H ∧ D.nx σ H) ∨ ((IteT K a c).go i H ∧ ∃ N : L2.St → Hp → Prop, (∀ σ' H', N σ' H' → ∃ m', m' < m ∧ W (i + 1) m' σ' H') ∧ ∀ x H', (IteT K a c).yld i H x H' → g x σ H' fun σ2 H2 => tb { D with nx := N, ct := N, bk := D.nx } σ2 H2) := by
  refine ⟨fun i m σ H => m = xs.length - i ∧ i ≤ xs.length ∧ Pv i σ H, ⟨_, rfl, Nat.zero_le _, h0⟩, ?_⟩
  rintro i m σ H ⟨rfl, le, z⟩
  have q := hl i σ H le z
  rcases Nat.lt_or_eq_of_le le with lt | rfl
  · have e : xs[i]? = some xs[i] := by simp [lt]
    refine .inr ⟨⟨xs, xs[i], q, e⟩, Pv (i + 1), fun σ2 H2 z2 => ⟨_, by omega, rfl, lt, z2⟩, ?_⟩
    rintro v _ ⟨T, x, rfl, hT, rfl, hx⟩
    exact hs i x T σ H (hx xs q) z hT
  · exact .inl ⟨⟨xs, q, Nat.le_refl _⟩, hd σ H z⟩
end Ts
namespace Ts
open PySem PySem.Spec PyProof.Rows L2
section
variable {prog : Program} {w : World} {A : Around} {E : Value → Shared → Prop} {s : Shared}
theorem getItem_whole {t sl : Addr} {items : Array Value} {vl vu : Value} {lo hi : Option Int} {Q : Value → Shared → Prop} (ht : IsTup s.heap t items) (hs : s.heap.IsSliceOf sl vl vu .none) (pl : IsPart vl lo) (pu : IsPart vu hi)
    (hw : HT.sIx items.size 0 lo = 0 ∧ HT.sIx items.size items.size hi = items.size) (h : Q (.ref t) s) : wpAny (model prog w) A (getItem (.ref t) (.ref sl)) Q E s := by
  obtain ⟨os, hos, hcs, hds⟩ := id hs
  have hTs : s.TypeIs (.ref sl) "slice" := ⟨os, hos, hcs⟩
  unfold getItem
  try with_reducible refine wpAny_holding ?_
  first | refine wpAny_bind (wpAny_pure ?_) | skip
  refine wpAny_bind (wpAny_sequenceKey ht.typeIs (by decide) ?_)
  refine wpAny_bind (wpAny_callSpecial?_slot (name := Str.ofString "__getitem__") ht.typeIs PyProof.Rows.slot_tuple_getitem (wpAny_call_entry PyProof.Rows.slot_tuple_getitem ht.typeIs entry_tuple_getitem ?_ (args_tuple_getitem _ _)))
  show wpAny _ _ (Builtin.Tuple.tupleItemsOf (.ref t) >>= _) _ _ s
  refine wpAny_bind (tupleItemsOf_ ht (wpAny_bind (wpAny_typeOf hTs ?_)))
  rw [if_pos (by decide)]
  refine wpAny_bind (HT.sliceApplied_gen hs pl pu ?_)
  rw [hw.1, hw.2, Nat.sub_zero]
  show wpAny _ _ (if (((0 : Nat) : Int) == 0 && (1 : Int) == 1 && items.size == items.size) = true then _ else _) _ _ s
  rw [if_pos (by simp)]
  refine wpAny_bind ?_
  unfold Builtin.Tuple.tupleIsExact
  refine wpAny_bind (wpAny_typeOf ht.typeIs (wpAny_pure ?_))
  show wpAny _ _ (if (Value.type "tuple" == Value.type "tuple") = true then _ else _) _ _ s
  rw [if_pos (by decide)]
  exact wpAny_bind (wpAny_rule (wpAny_pure ⟨_, rfl, wpAny_pure h⟩))
end
/-- t[lo:hi], also the whole of it -/
def rSlU (K : PySem.W.Frag) : V → Option Int → Option Int → Hp → VK → Prop := fun x lo hi H Q => ∃ a xs, x = .ref a ∧ SqT K H a xs ∧ ∀ p H', Same H H' → (p = a ∨ H p = none) → SqT K H' p (cutV xs lo hi) → (H a = some (.tup xs) → H' p = some (.tup (cutV xs lo hi))) → Q (.ref p) H'
theorem cut_all {xs : List V} {lo hi : Option Int} (h : HT.sIx xs.length 0 lo = 0 ∧ HT.sIx xs.length xs.length hi = xs.length) : cutV xs lo hi = xs := by
  unfold cutV
  rw [h.1, h.2, List.drop_zero, Nat.sub_zero, List.take_length]
theorem sl_tupU {X : Cx} : SlR X (rSlU X.K) := by
  intro pins s σ H x v vl vu lo hi sl Q I rx hs pl pu h
  obtain ⟨a, xs, rfl, hx, q⟩ := h
  by_cases hw : HT.sIx xs.length 0 lo = 0 ∧ HT.sIx xs.length xs.length hi = xs.length
  · cases rx
    obtain ⟨its, r, ht, hz⟩ := I.tuple hx
    have hlen : its.toArray.size = xs.length := by rw [List.size_toArray]; exact r.length.symm
    refine ⟨"tuple", _, PyProof.Rows.slot_tuple_getitem.lookup, ht.typeIs, ?_⟩
    refine getItem_whole ht hs pl pu (by rw [hlen]; exact hw) ⟨.ref a, H, I, rfl, q a H (fun _ _ z => z) (.inl rfl) (by rw [cut_all hw]; exact hx) (fun z => by rw [cut_all hw]; exact z)⟩
  · exact sl_tup pins s σ H _ v vl vu lo hi sl Q I rx hs pl pu ⟨a, xs, rfl, hx, hw, fun p hp => q p _ (same_new hp) (.inr hp) (SqT.of upd_same) (fun _ => upd_same)⟩
end Ts
namespace Ts
open PySem PySem.Spec PyProof.Rows L2
/-! ## logs -/
def IsLog (ls : List Nat) : Prop := ∀ x ∈ ls, x ≤ 1
abbrev logV (ls : List Nat) : List V := ls.map fun x : Nat => V.int ((x : Nat) : Int)
/-- the bounds as they are after t ticks: a pair of tops and bottoms -/
structure Edge where
  a : Nat
  b : Nat
  c : Nat
  d : Nat
def Edge.step (E : Edge) (h t : Nat) : Edge :=
  ⟨if E.a * t < (h - 1) * E.b then h - 1 else E.a, if E.a * t < (h - 1) * E.b then t else E.b, if (h + 1) * E.d < E.c * t then h + 1 else E.c, if (h + 1) * E.d < E.c * t then t else E.d⟩
/-! ## what is asked -/
abbrev pairI (a b : Int) : PyData := .tuple [.int a, .int b]
def Edge.fits (E : Edge) : Prop := E.a * E.d < E.c * E.b
instance (E : Edge) : Decidable E.fits := by unfold Edge.fits; exact inferInstance
def Edge.has (E : Edge) (e p : Nat) : Prop := E.a * p < e * E.b ∧ e * E.d < E.c * p
instance (E : Edge) (e p : Nat) : Decidable (E.has e p) := by unfold Edge.has; exact inferInstance
/-! ## data of tuples alone -/
theorem DpAll.imp {K : PySem.W.Frag} {H H' : Hp} : ∀ {vs : List V} {ds : List PyData}, DpAll K H vs ds → (∀ d ∈ ds, ∀ v, Dp K H v d → Dp K H' v d) → DpAll K H' vs ds
  | _, _, .nil, _ => .nil
  | _, _, .cons h t, g => .cons (g _ List.mem_cons_self _ h) (DpAll.imp t fun d hd => g d (List.mem_cons_of_mem _ hd))
theorem fine_pair {a b : Nat} (h1 : a ≤ 1000000) (h2 : b ≤ 1000000) : Fine 300 1 (pairI (a : Int) (b : Int)) := by
  have k : (1000000 : Int) < 10 ^ 40 := by decide
  generalize ((10 : Int) ^ 40) = c at k
  exact ((FineAll.cons (fine_int (e := 0) (i := (a : Int)) (by omega) (by omega)) (FineAll.cons (fine_int (e := 0) (i := (b : Int)) (by omega) (by omega)) (FineAll.nil (w := 0)))).tup).mono (by decide) (by decide)
/-- a list of logs -/
def LogsAt (H : Hp) (xs : List V) : Prop := ∀ x ∈ xs, ∃ (a : Addr) (ls : List Nat), x = .ref a ∧ H a = some (.tup (logV ls)) ∧ IsLog ls ∧ 1 ≤ ls.length ∧ ls.length ≤ 200
theorem LogsAt.set {pl : Addr} {H : Hp} {xs us : List V} {u : HO} (h : LogsAt H xs) (B : H pl = some (.lst us)) : LogsAt (upd H pl u) xs := fun x hx => by
  obtain ⟨a, ls, rfl, e, r⟩ := h x hx
  refine ⟨a, ls, rfl, ?_, r⟩
  rw [upd_ne (fun z => by rw [z, B] at e; cases e)]; exact e
theorem LogsAt.snoc {H : Hp} {xs : List V} {a : Addr} {ls : List Nat} (h : LogsAt H xs) (e : H a = some (.tup (logV ls))) (hl : IsLog ls) (l1 : 1 ≤ ls.length) (l2 : ls.length ≤ 200) : LogsAt H (xs ++ [.ref a]) := fun x hx => by
  rcases List.mem_append.mp hx with z | z
  · exact h x z
  · rw [List.mem_singleton.mp z]; exact ⟨a, ls, rfl, e, hl, l1, l2⟩
end Ts
namespace Ts
open PySem PySem.Spec PyProof.Rows L2
/-! ## the simplest share between two bounds -/
def topE (E : Edge) (p : Nat) : Nat := E.a * p / E.b + 1
def okAt (E : Edge) (p : Nat) : Prop := topE E p ≤ p ∧ topE E p * E.d < E.c * p
instance (E : Edge) (p : Nat) : Decidable (okAt E p) := by unfold okAt; exact inferInstance
structure IsFirst (E : Edge) (p : Nat) : Prop where
  pos : 1 ≤ p
  ok : okAt E p
  least : ∀ q, 1 ≤ q → q < p → ¬ okAt E q
theorem top_has {E : Edge} (hb : 0 < E.b) (p : Nat) : E.a * p < topE E p * E.b := by
  unfold topE
  rw [Nat.mul_comm _ E.b]
  exact Nat.lt_mul_div_succ _ hb
theorem top_le_of {E : Edge} (hb : 0 < E.b) {e p : Nat} (h : E.a * p < e * E.b) : topE E p ≤ e := (Nat.div_lt_iff_lt_mul hb).mpr h
theorem ok_of {E : Edge} (hb : 0 < E.b) {e p : Nat} (h : E.has e p) (h3 : e ≤ p) : okAt E p := by
  have t := top_le_of hb h.1
  exact ⟨Nat.le_trans t h3, Nat.lt_of_le_of_lt (Nat.mul_le_mul_right _ t) h.2⟩
theorem IsFirst.has {E : Edge} {p : Nat} (hb : 0 < E.b) (h : IsFirst E p) : E.has (topE E p) p := ⟨top_has hb p, h.ok.2⟩
theorem IsFirst.gcd {E : Edge} {p : Nat} (hb : 0 < E.b) (h : IsFirst E p) : Nat.gcd (topE E p) p = 1 := by
  have g0 : 0 < Nat.gcd (topE E p) p := Nat.gcd_pos_of_pos_right _ h.pos
  rcases Nat.lt_or_eq_of_le (show 1 ≤ Nat.gcd (topE E p) p from g0) with z | z
  · exfalso
    have hh := h.has hb
    generalize hg : Nat.gcd (topE E p) p = g at g0 z
    have d1 : g ∣ topE E p := hg ▸ Nat.gcd_dvd_left _ _
    have d2 : g ∣ p := hg ▸ Nat.gcd_dvd_right _ _
    obtain ⟨x, hx⟩ := d1
    obtain ⟨y, hy⟩ := d2
    have y1 : 1 ≤ y := by
      rcases Nat.eq_zero_or_pos y with w | w
      · rw [w, Nat.mul_zero] at hy; have := h.pos; omega
      · exact w
    have yp : y < p := by
      rw [hy]
      calc y = 1 * y := (Nat.one_mul y).symm
        _ < g * y := Nat.mul_lt_mul_of_pos_right z y1
    refine h.least y y1 yp (ok_of hb (e := x) ⟨?_, ?_⟩ ?_)
    · have k := hh.1
      have e1 : E.a * p = E.a * y * g := by rw [hy, Nat.mul_comm g y, Nat.mul_assoc]
      have e2 : topE E p * E.b = x * E.b * g := by rw [hx, Nat.mul_comm g x, Nat.mul_right_comm]
      rw [e1, e2] at k
      exact Nat.lt_of_mul_lt_mul_right k
    · have k := hh.2
      have e1 : E.c * p = E.c * y * g := by rw [hy, Nat.mul_comm g y, Nat.mul_assoc]
      have e2 : topE E p * E.d = x * E.d * g := by rw [hx, Nat.mul_comm g x, Nat.mul_right_comm]
      rw [e1, e2] at k
      exact Nat.lt_of_mul_lt_mul_right k
    · have k := h.ok.1
      rw [hx] at k
      have k2 : g * x ≤ g * y := by rw [← hy]; exact k
      exact Nat.le_of_mul_le_mul_left k2 g0
  · exact z.symm
end Ts
namespace Ts
open PySem PySem.Spec PyProof.Rows L2
/-! ## pairs of a number and something else sorted: no two of one number -/
section
variable {prog : Program} {w : World} {A : Around} {E : Value → Shared → Prop} {s : Shared}
def KeyRef (h : Heap) (v : Value) (k : Int) (r : Addr) : Prop := ∃ a xs t, v = Value.ref a ∧ IsTup h a xs ∧ xs.toList = [.int k t, .ref r]
theorem KeyRef.keeps {h h' : Heap} {v : Value} {k : Int} {r : Addr} (g : KeyRef h v k r) (kk : ∀ (b : Addr) (o : Obj), h.get? b = some o → o.cls = .type "tuple" → h'.get? b = some o) : KeyRef h' v k r := by
  obtain ⟨a, xs, t, rfl, ⟨o, ho, hc, n, hd⟩, e⟩ := g
  exact ⟨a, xs, t, rfl, ⟨o, kk a o ho hc, hc, n, hd⟩, e⟩
end
end Ts
namespace Ts
open PySem PySem.Spec PyProof.Rows L2
/-! ## all shares between two bounds, ascending -/
abbrev Frc := Nat × Nat
def ltF (x y : Frc) : Prop := x.1 * y.2 < y.1 * x.2
instance (x y : Frc) : Decidable (ltF x y) := by unfold ltF; exact inferInstance
/-- what is found, by any way -/
def isShare (E : Edge) (n : Nat) (x : Frc) : Prop := (1 ≤ x.2 ∧ x.2 ≤ n) ∧ (1 ≤ x.1 ∧ x.1 ≤ x.2) ∧ Nat.gcd x.1 x.2 = 1 ∧ E.has x.1 x.2
structure Found (E : Edge) (n : Nat) (L : List Frc) : Prop where
  nd : L.Nodup
  mem : ∀ x, x ∈ L ↔ isShare E n x
/-- the shares of bottoms up to n, and of the bottom n + 1 with tops below k -/
structure FoundTo (E : Edge) (n k : Nat) (L : List Frc) : Prop where
  nd : L.Nodup
  mem : ∀ x, x ∈ L ↔ (isShare E n x ∨ (x.2 = n + 1 ∧ x.1 < k ∧ isShare E (n + 1) x))
theorem Found.start {E : Edge} {n k : Nat} {L : List Frc} (h : Found E n L) (hk : ∀ e, e < k → ¬ isShare E (n + 1) (e, n + 1)) : FoundTo E n k L := ⟨h.nd, fun x => (h.mem x).trans ⟨.inl, fun z => by
  rcases z with z | ⟨z1, z2, z3⟩
  · exact z
  · exact absurd z3 (by obtain ⟨e, p⟩ := x; dsimp only at *; subst z1; exact hk e z2)⟩⟩
/-! ### candidates: a key, a share -/
/-! ### the two keys -/
/-! ### what is asked -/
end Ts
namespace Ts
open PySem PySem.Spec PyProof.Rows L2 L2H LamX
/-! ## what stays but for tables -/
theorem TyX.ext {K : PySem.W.Frag} {H H' : Hp} {x : V} {t : Value} (h : TyX K H x t) (s : ExtN H H') : TyX K H' x t := by
  cases h with
  | base b => exact .base (match b with
    | .non => .non
    | .bl x => .bl x
    | .int i => .int i
    | .str x => .str x
    | .flt x => .flt x
    | .lst e => .lst (s _ _ e fun _ z => by cases z)
    | .frz e => .frz (s _ _ e fun _ z => by cases z)
    | .tup e => .tup (s _ _ e fun _ z => by cases z)
    | .dK e => .dK (s _ _ e fun _ z => by cases z)
    | .dT e => .dT (s _ _ e fun _ z => by cases z)
    | .ins e a b c d f => .ins (s _ _ e fun _ z => by cases z) a b c d f)
  | byt b => exact .byt b
  | set e => exact .set (s _ _ e fun _ z => by cases z)
  | kList e c => exact .kList e c
  | kTuple e c => exact .kTuple e c
  | kDict e c => exact .kDict e c
  | fTuple e => exact .fTuple (s _ _ e fun _ z => by cases z)
  | fDict e => exact .fDict (s _ _ e fun _ z => by cases z)
theorem KindV.ext {K : PySem.W.Frag} {H H' : Hp} {v : V} {o : Option Int} (h : KindV K H v o) (s : ExtN H H') : KindV K H' v o := by
  cases o with
  | some i => exact h
  | none => obtain ⟨T, h1, h2⟩ := h; exact ⟨T, h1, TyX.ext h2 s⟩
theorem ThingAt.ext {K : PySem.W.Frag} {H H' : Hp} {v : V} {t : Option (List (Option Int))} (h : ThingAt K H v t) (s : ExtN H H') : ThingAt K H' v t := by
  cases t with
  | none => obtain ⟨T, h1, h2⟩ := h; exact ⟨T, h1, TyX.ext h2 s⟩
  | some os => obtain ⟨p, xs, h1, h2, h3, h4⟩ := h; exact ⟨p, xs, h1, s _ _ h2 (fun _ z => by cases z), h3, fun i x o a b => (h4 i x o a b).ext s⟩
theorem sqt_ext {K : PySem.W.Frag} {H H' : Hp} {a : Addr} {xs : List V} (h : SqT K H a xs) (s : ExtN H H') : SqT K H' a xs := by
  rcases h with (h | ⟨o, h⟩) | h
  · exact .inl (.inl (s _ _ h fun _ z => by cases z))
  · exact .inl (.inr ⟨o, s _ _ h fun _ z => by cases z⟩)
  · exact .inr h
theorem sql_ext {K : PySem.W.Frag} {H H' : Hp} {a : Addr} {xs : List V} (h : SqL K H a xs) (s : ExtN H H') : SqL K H' a xs := by
  rcases h with (h | ⟨o, h⟩) | h
  · exact .inl (.inl (s _ _ h fun _ z => by cases z))
  · exact .inl (.inr ⟨o, s _ _ h fun _ z => by cases z⟩)
  · exact .inr h
mutual
theorem dp_ext {K : PySem.W.Frag} {H H' : Hp} (s : ExtN H H') : ∀ (d : PyData) (v : V), Dp K H v d → Dp K H' v d
  | _, _, .non => .non
  | _, _, .bl b => .bl b
  | _, _, .int i => .int i
  | _, _, .str x => .str x
  | .list ds, _, .lst h a => .lst (sql_ext h s) (dpAll_ext s ds _ a)
  | .tuple ds, _, .tup h a => .tup (sqt_ext h s) (dpAll_ext s ds _ a)
theorem dpAll_ext {K : PySem.W.Frag} {H H' : Hp} (s : ExtN H H') : ∀ (ds : List PyData) (vs : List V), DpAll K H vs ds → DpAll K H' vs ds
  | [], _, .nil => .nil
  | d :: ds, _, .cons h t => .cons (dp_ext s d _ h) (dpAll_ext s ds _ t)
end
theorem ShownV.ext {K : PySem.W.Frag} {H H' : Hp} {v : V} {t : Str} (h : ShownV K H v t) (s : ExtN H H') : ShownV K H' v t := by
  obtain ⟨d, h1, h2⟩ := h
  exact ⟨d, dp_ext s _ _ h1, h2⟩
/-! ## tuples joined, no frozen ones -/
/-! ## the functions of logs, given anything -/
/-! ## what is told -/
/-- the text that is due for the value of an error -/
def shV : V → Str
  | .int i => (PyData.int i).shown
  | _ => PyData.none.shown
/-- what is heard: as it is due -/
def Fits (due : Option (Str × Str)) (w : Str × Str) : Prop := match due with
  | none => w.1 = "back"
  | some d => w = d
end Ts
namespace Ts
open PySem PySem.Spec PyProof.Rows L2 L2H LamX
/-- a list of two texts -/
def PairAt (H : Hp) (v : V) (w : Str × Str) : Prop := ∃ p, v = .ref p ∧ H p = some (.lst [.str w.1, .str w.2])
inductive Pairs (H : Hp) : List V → List (Str × Str) → Prop
  | nil : Pairs H [] []
  | cons {x : V} {w : Str × Str} {xs : List V} {ws : List (Str × Str)} : PairAt H x w → Pairs H xs ws → Pairs H (x :: xs) (w :: ws)
end Ts
namespace Ts
open PySem PySem.Spec PyProof.Rows L2 L2H LamX
abbrev pairW (w : Str × Str) : PyData := .list [.str w.1, .str w.2]
theorem PairAt.mono {H H' : Hp} {v : V} {w : Str × Str} (h : PairAt H v w) (s : Same H H') : PairAt H' v w := by
  obtain ⟨p, h1, h2⟩ := h
  exact ⟨p, h1, s _ _ h2⟩
theorem Pairs.mono {H H' : Hp} (s : Same H H') : ∀ {xs : List V} {ws : List (Str × Str)}, Pairs H xs ws → Pairs H' xs ws
  | _, _, .nil => .nil
  | _, _, .cons h t => .cons (h.mono s) (t.mono s)
theorem Pairs.dp {K : PySem.W.Frag} {H : Hp} : ∀ {xs : List V} {ws : List (Str × Str)}, Pairs H xs ws → DpAll K H xs (ws.map pairW)
  | _, _, .nil => .nil
  | _, _, .cons ⟨_, h1, h2⟩ t => .cons (by rw [h1]; exact .lst (SqL.of h2) (.cons (.str _) (.cons (.str _) .nil))) t.dp
theorem Pairs.length {H : Hp} : ∀ {xs : List V} {ws : List (Str × Str)}, Pairs H xs ws → xs.length = ws.length
  | _, _, .nil => rfl
  | _, _, .cons _ t => by rw [List.length_cons, List.length_cons, t.length]
theorem Pairs.get {H : Hp} : ∀ {xs : List V} {ws : List (Str × Str)} {i : Nat} {x : V}, Pairs H xs ws → xs[i]? = some x → ∃ w, w ∈ ws ∧ PairAt H x w
  | _, _, 0, _, .cons h _, e => by cases e; exact ⟨_, List.mem_cons_self, h⟩
  | _, _, i + 1, _, .cons _ t, e => by
    obtain ⟨w, h1, h2⟩ := t.get (i := i) e
    exact ⟨w, List.mem_cons_of_mem _ h1, h2⟩
end Ts
namespace Ts
open PySem PySem.Spec PyProof.Rows L2 L2H LamX
theorem lay_all : ∀ {ds : List PyData}, (∀ d ∈ ds, d.canLay0 = true ∧ d.depth ≤ 60) → PyData.canLayAll0 ds = true ∧ PyData.depthAll ds ≤ 60
  | [], _ => ⟨rfl, Nat.zero_le _⟩
  | d :: ds, h => by
    obtain ⟨h1, h2⟩ := h d List.mem_cons_self
    obtain ⟨g1, g2⟩ := lay_all (ds := ds) fun x hx => h x (List.mem_cons_of_mem _ hx)
    exact ⟨by show (d.canLay0 && PyData.canLayAll0 ds) = true; rw [h1, g1]; rfl, by show max d.depth (PyData.depthAll ds) ≤ 60; omega⟩
theorem shaped_tup {ds : List PyData} (h : ∀ d ∈ ds, d.canLay0 = true ∧ d.depth ≤ 60) : SeqAt.shaped (.tuple ds) = true := by
  obtain ⟨h1, h2⟩ := lay_all h
  unfold SeqAt.shaped
  rw [show PyData.canLay0 (.tuple ds) = true from h1, decide_eq_true (show PyData.depth (.tuple ds) ≤ 64 by show PyData.depthAll ds + 1 ≤ 64; omega)]; rfl
theorem ThingP.of {K : PySem.W.Frag} {H : Hp} {p : Addr} {xs : List V} {ds : List PyData} (h : H p = some (.tup xs)) (hd : DpAll K H xs ds) (hl : ds.length ≤ 3000) (ok : ∀ d ∈ ds, d.canLay0 = true ∧ d.depth ≤ 60) : ThingP K H (.ref p) (some ds) := ⟨p, xs, rfl, h, hd, hl, shaped_tup ok⟩
end Ts
namespace Ts
open PySem PySem.Spec PyProof.Rows L2 L2H LamX
/-- of a heap only what is said of it counts from now on -/
theorem at_heap {G : Hp → Prop} {Hn : Hp} (C : Hp → Prop) (c : C Hn) (h : ∀ Hx, C Hx → G Hx) : G Hn := h Hn c
theorem at_heap2 {γ : Type} {q : γ} {G : Hp → γ → Prop} {Hn : Hp} (C : Hp → Prop) (c : C Hn) (h : ∀ Hx, C Hx → G Hx q) : G Hn q := h Hn c
end Ts
namespace Ts
open PySem PySem.Spec PyProof.Rows L2 L2H LamX
/-! ## what is heard of the functions of logs -/
/-- what repr says of what is wrong -/
structure ShIs (K : PySem.W.Frag) (u : V) (d : PyData) : Prop where
  dp : ∀ H : Hp, Dp K H u d
  sh : d.showable = true
  nd : d.hasDict = false
  dep : d.depth < 60
  len : d.shown.length ≤ sizeLine
  eq : shV u = d.shown
  ok : PyData.strOk d.shown = true
theorem ShIs.shown {K : PySem.W.Frag} {u : V} {d : PyData} (h : ShIs K u d) (H : Hp) : ShownV K H u (shV u) := ⟨d, h.dp H, h.sh, h.nd, h.dep, h.len, h.eq⟩
/-! ## what the law asks, where lambdas are made -/
end Ts
namespace Ts
open PySem PySem.Spec PyProof.Rows L2 L2H LamX
/-! ## the list of what was told, call by call -/
structure Ph (T : List (Addr × Str)) (b lt : Addr) (due : Option (Str × Str)) (H5 Hn : Hp) (xs : List V) (ws : List (Str × Str)) : Prop where
  B : Bas Hn b
  T : Tabs T Hn
  l : Hn lt = some (.lst xs)
  ps : Pairs (hid2 lt Hn) xs ws
  fs : ∀ w ∈ ws, Fits due w
  nb : lt ≠ b
  s : ExtN H5 (hid2 lt Hn)
theorem Pairs.snoc {H : Hp} : ∀ {xs : List V} {ws : List (Str × Str)} {x : V} {w : Str × Str}, Pairs H xs ws → PairAt H x w → Pairs H (xs ++ [x]) (ws ++ [w])
  | _, _, _, _, .nil, h => .cons h .nil
  | _, _, _, _, .cons g t, h => .cons g (t.snoc h)
end Ts
namespace Ts
open PySem PySem.Spec PyProof.Rows L2 L2H LamX
/-! ## own errors over any built-in base: the class -/
structure OexB (K : PySem.W.Frag) (C : Addr) : Prop where
  bas : ∃ (B newId initId : String) (bmB : List Value), ExcBaseFacts B newId initId bmB ∧ StoreFacts B bmB "object.__setattr__" "object" ∧ PySem.W.excInitIn K C bmB newId = true ∧ PySem.W.excOver K C bmB = true
  dct : PySem.W.hasDictIn K C = true
  sa : PySem.W.findIn K (.ref C) "__setattr__" = some (some (.builtin "object.__setattr__"))
  exC : PySem.W.subIn K (.ref C) (.type "BaseException") = some true
  tyC : PySem.W.typeIn K (.ref C) = some (.type "type")
  kC : PySem.W.keepIn K (.ref C) = true
section
open Builtin Builtin.ObjectAttr PySem.W PySem.HandSPX
variable {prog : Program} {w : World} {A : Around} {E : Value → Shared → Prop} {R : Result → Shared → Prop} {h9 : Heap} {g9 : Array GenState} {d9 : Drawn} {t9 : Nat} {os9 : OsState}
/-- the first field of an exception over any base -/
theorem osa_first {K : W.Frag} {B : String} {bmB : List Value} {fld : Str} {tk : Tok} {val : Value} {e9 C : Addr} {fv : Array Value} (SF : StoreFacts B bmB "object.__setattr__" "object") (X9 : K.In h9)
    (he : h9.get? e9 = some { cls := .ref C, data := .fields fv }) (ov : excOver K C bmB = true) (hh : hasDictIn K C = true) (no : findIn K (.ref C) fld = some none)
    (hq : ∀ k9 tk' x9, (∀ b o, b ≠ e9 → h9.get? b = some o → k9.get? b = some o) → h9.objs.size ≤ x9 → x9 ≠ e9 → k9.get? e9 = some { cls := .ref C, dict := some x9, data := .fields fv } →
      k9.Ns1 x9 (fun y => if y = fld then some val else none) → R (.ok (.ret .none)) ⟨k9, g9, d9, tk', os9⟩) :
    codeAny (model prog w) A (.call (.builtin "object.__setattr__") ⟨[.ref e9, .str fld tk, val], []⟩) R ⟨h9, g9, d9, t9, os9⟩ := by
  have I9 : InstAt h9 e9 { cls := .ref C, data := .fields fv } C none := ⟨he, rfl, rfl, trivial⟩
  have n9 : e9 ≠ h9.objs.size := Nat.ne_of_lt (Heap.lt_size he)
  refine osa_openX SF X9 I9 ov (show takerIn K C fld = some none by unfold takerIn; rw [no]; rfl) fun b => ?_
  show wpAny _ _ (storeInOwnDict (.ref e9) (.ref C) (.str fld tk) fld val b) _ _ _
  obtain ⟨cd9, hc, hd9⟩ := any_some hh
  have L9 : Looks (model prog w) h9 (classData C) cd9 := looks_clsIn X9 hc
  obtain ⟨a1, a2, a3, a4, a5, hd, a6, a7, a8, a10, a11⟩ := cd9
  (try dsimp only at hd9)
  subst hd9
  unfold storeInOwnDict ownDictForStores
  repeat (first | with_reducible refine PySem.HandSPX.store_in_new ?_ ?_ | with_reducible refine wpAny_loadPart_at he ?_ | with_reducible refine L9.at ?_ | wp_step)
  · exact ⟨_, #[], _, (Heap.get?_update_ne _ _ _ _ n9.symm).trans (Heap.get?_push_at rfl rfl), rfl, fun z hz => absurd hz (by simp), fun _ => rfl⟩
  · intro k9 tk' hn9 hs9
    have he1 : (h9.push { cls := .type "dict", data := .dict #[] }).get? e9 = some { cls := .ref C, data := .fields fv } := Heap.get?_push_of_some _ he
    refine hq k9 tk' h9.objs.size (fun b o hb ho => ?_) (Nat.le_refl _) n9.symm ?_ hn9
    · exact (hs9.2 b (Nat.ne_of_lt (Heap.lt_size ho))).trans ((Heap.get?_update_ne _ _ _ _ hb).trans (Heap.get?_push_of_some _ ho))
    · exact (hs9.2 e9 n9).trans (Heap.get?_update_self _ he1 rfl)
end
section
variable {X : Cx} {pins : List (Addr × Obj)} {σ : L2.St} {H : Hp} {s : Shared} {a C : Addr} {fld : Str} {y : V} {u : Value} {Q : Unit → Shared → Prop} {E : Value → Shared → Prop} {A : Around}
theorem ostB_new (T : OexB X.K C) (I : L2.Inv X pins σ H s) (ea : H a = some (exo a C none)) (no : PySem.W.findIn X.K (.ref C) fld = some none) (ry : RelV y u)
    (h : ∀ x9 s', H x9 = none → x9 ≠ a → L2.Inv X pins σ (upd (upd H x9 (exd x9 [(fld, y)])) a (exo a C (some x9))) s' → Q () s') : wpAny (model X.prog X.w) A (setAttr (.ref a) fld u) Q E s := by
  obtain ⟨B, newId, initId, bmB, FB, SF, _, ov⟩ := T.bas
  obtain ⟨t1, h1⟩ := exo_at I.hok ea
  obtain ⟨h9, g9, d9, t9, os9⟩ := s
  refine PySem.W.set_plain I.kIn (od := none) ⟨h1, rfl, rfl, trivial⟩ T.sa ?_
  refine osa_first SF I.kIn h1 ov T.dct no (fun k9 tk' x9 kp xn xne hx9 hn9 => ?_)
  have fr9 : H x9 = none := I.hok.fresh xn
  have old : ∀ {b : Addr} {o : Obj}, h9.get? b = some o → b ≠ x9 := fun q => Nat.ne_of_lt (Nat.lt_of_lt_of_le (Heap.lt_size q) xn)
  have off : ∀ {b : Addr}, H b = none → b ≠ a := fun n z => by rw [z, ea] at n; cases n
  have U9 : Un X.fs [] H (upd (upd H x9 (exd x9 [(fld, y)])) a (exo a C (some x9))) h9 k9 :=
    { keep := fun b o q n _ _ => kp b o (off n) q
      slot := fun b o q n _ _ => ⟨o.slots, kp b o (off n) q⟩
      free := fun b o q n _ => by rw [upd_ne (off n), upd_ne (old q)]; exact n
      there := fun b o q _ => by
        by_cases hb : b = a
        · exact ⟨_, hb ▸ hx9⟩
        · exact ⟨o, kp b o hb q⟩
      tups := fun b xs q => by rw [upd_ne (at_ne ea q exo_tup), upd_ne (ne_of_none q fr9)]; exact q
      frzs := fun b o v q => by rw [upd_ne (at_ne ea q exo_frz), upd_ne (ne_of_none q fr9)]; exact q
      tbls := fun b ps q => ⟨#[], by rw [upd_ne (at_ne ea q exo_tbl), upd_ne (ne_of_none q fr9), q]; simp⟩ }
  refine h x9 _ fr9 xne (I.un (t' := tk') U9 fun b o q => ?_)
  by_cases hb : b = a
  · subst hb
    rw [upd_same] at q; cases q
    exact exo_ok hx9
  rw [upd_ne hb] at q
  by_cases hd : b = x9
  · subst hd
    rw [upd_same] at q; cases q
    exact exd_ok hn9 (relO_put (fs := []) ry fun _ => trivial)
  rw [upd_ne hd] at q
  refine (I.hok b o q).stay (fun c v hc z => kp c v (hc.elim (fun e => e ▸ hb) fun e => at_ne ea e exo_own) z) (fun c hc => ?_) (fun c xs hc => ?_)
  · rw [upd_ne (at_ne ea hc exo_own), upd_ne (ne_of_none hc fr9)]; exact hc
  · rw [upd_ne (at_ne ea hc exo_tup), upd_ne (ne_of_none hc fr9)]; exact hc
end
/-- self.fld = e, the first field -/
def tOstB (K : PySem.W.Frag) (fld : Str) (to te : TE) : TS := fun D σ H => te σ H fun y H1 => to σ H1 fun x H2 => ∃ a C : Addr, x = .ref a ∧ OexB K C ∧ PySem.W.findIn K (.ref C) fld = some none ∧
  H2 a = some (exo a C none) ∧ ∀ dx, H2 dx = none → dx ≠ a → D.nx σ (upd (upd H2 dx (exd dx [(fld, y)])) a (exo a C (some dx)))
section
variable {X : Cx} {o e : Expr} {to te : TE} {fld : Str} {p p' pos : Pos}
theorem ps_ostB (ho : PE X o to) (he : PE X e te) (hs : swapsWith e (some (.Attribute o fld p')) pos.line X.env = pure false := by rfl) : PS X (.Assign [.Attribute o fld p'] e pos) (tOstB X.K fld to te) := by
  refine ⟨fun pins s σ H D I h => ?_⟩
  refine plainObj_wpAny_Assign_Attribute (thn (he.run pins s σ H _ I h) fun v s1 ⟨y, H1, I1, r1, q1⟩ => thn (ho.run pins s1 σ H1 _ I1 q1) fun u s2 ⟨x, H2, I2, r2, a, C, ex, T, no, ea, q⟩ => ?_) hs
  subst ex
  cases (show u = Value.ref a from r2)
  exact ostB_new T I2 ea no r1 fun dx s' n ne J => ⟨σ, _, J, q dx n ne⟩
end
/-- C(e, ..), C an own error over any base, its own __init__ keeping sp -/
theorem pmk_oexB {X : Cx} {e : Expr} {es : List Expr} {ta : TA} {p pos : Pos} {CX : CXT} {x : Str} {C fI : Addr} {k : Nat} {fd : FuncData} {ps : List Str} {sp : Sp} (T : OexB X.K C) (iC : PySem.W.findIn X.K (.ref C) "__init__" = some (some (.ref fI))) (tI : PySem.W.typeIn X.K (.ref fI) = some (.type "function"))
    (F1 : FnOk X.prog X.w X.K X.mg X.base CX k fI fd ps sp) (hr : Room (k + 1) X.A) (hb : L2.Binds X.K fd ps []) (hx : Passes CX X (fun _ _ _ => False)) (hg : Gl X x) (hm : X.mg x = some (.ref C)) (ha : PA X (e :: es) ta)
    (hdb : (x == ("__debug__" : Str)) = false := by decide) (hse : starEach (e :: es) X.env = (false, eval e X.env) :: starEach es X.env := by rfl) (hnp : (backTo pos (starEach es X.env)).any (·.1) = false := by rfl) :
    PMk X (.Call (.Name x p) (e :: es) [] pos) (tMkO C sp [] ta) := by
  intro pins s σ H Q I h
  obtain ⟨B, newId, initId, bmB, FB, SF, ini, _⟩ := T.bas
  refine wpAny_Call_Name_kw (ld_glob I hg hm ?_ hdb)
  refine PySem.W.callWith_K (h₀ := X.base) I.ok.mod.kin T.kC (thn (ha.run pos pins s σ H _ I h) fun us s1 ⟨vs, H1, I1, r1, hz, q1⟩ => ⟨I1.kIn, ?_⟩) hse hnp
  show wpAny _ _ (call (.ref C) us) _ _ _
  obtain ⟨nm, N, qn, bs, bm, hdct, sn, sub, ab, col, dd, k0, k1, k2, k3, k5, hC, hT⟩ := PySem.W.excInit_of I1.kIn ini
  obtain ⟨h9, g9, d9, t9, os9⟩ := s1
  have grow : h9.objs.size ≤ h9.objs.size + 1 := Nat.le_succ _
  have hq := q1 (h9.objs.size + 1) (I1.hok.fresh grow)
  have keep9 : ∀ b o, h9.get? b = some o → ((h9.push (PySem.W.kdv_tup us)).push (PySem.HandSPX.excO C h9.objs.size)).get? b = some o := fun _ _ z => Heap.get?_push_of_some _ (Heap.get?_push_of_some _ z)
  have at9 : ((h9.push (PySem.W.kdv_tup us)).push (PySem.HandSPX.excO C h9.objs.size)).get? (h9.objs.size + 1) = some (PySem.HandSPX.excO C h9.objs.size) := by heap_get
  have I2 : L2.Inv X pins σ (upd H1 (h9.objs.size + 1) (exo (h9.objs.size + 1) C none)) ⟨(h9.push (PySem.W.kdv_tup us)).push (PySem.HandSPX.excO C h9.objs.size), g9, d9, t9, os9⟩ :=
    I1.laid (t' := t9) (a := h9.objs.size + 1) (o := exo (h9.objs.size + 1) C none) (h' := (h9.push (PySem.W.kdv_tup us)).push (PySem.HandSPX.excO C h9.objs.size)) keep9 grow (exo_ok at9)
  have r2 : Vals (V.ref (h9.objs.size + 1) :: (vs ++ [])) (Value.ref (h9.objs.size + 1) :: (us ++ [])) := .cons rfl (r1.append .nil)
  have ln9 : (Value.ref (h9.objs.size + 1) :: us ++ []).length = ps.length := (r2.length.symm.trans (F1.len _ _ _ _ hq))
  have few9 : us.length ≤ sizeLine := by rw [← Paired.length r1, sizeLine_eq]; omega
  have bd9 := hb ⟨(h9.push (PySem.W.kdv_tup us)).push (PySem.HandSPX.excO C h9.objs.size), g9, d9, t9, os9⟩ (Value.ref (h9.objs.size + 1) :: us) I2.kIn ln9
  rw [List.cons_append] at bd9
  refine wpAny_call (PySem.HandSPX.call_own FB hT hC (PySem.W.looks_findIn I1.kIn iC) (fun self => PySem.W.bind_fn I1.kIn self tI) few9
    (codeAny_mono (F1.run _ X.stack _ _ ⟨Value.ref (h9.objs.size + 1) :: us, []⟩ (Value.ref (h9.objs.size + 1) :: (us ++ [])) _ _ (fun _ _ _ => False) (hr.make C us []) (I2.env0.make C us []) bd9 r2 hq) fun r s' z => ?_))
  cases r with
  | error er => exact hx pins σ _ _ er s' I2 z
  | ok fl =>
    cases fl with
    | ret u =>
      obtain ⟨v, H2, o2, b2, un2, hok2, rv, ev, d, fs, ea, ed, hd1, q2⟩ := z
      subst ev
      obtain ⟨k9, g8, d8, t8, os8⟩ := s'
      exact ⟨rv, mk_end (raises_own T.exC T.tyC) I1 grow keep9 un2 hok2 o2 b2 ea ed hd1 q2⟩
    | next => exact z.elim
    | brk => exact z.elim
    | cont => exact z.elim
/-! ## own errors of one field, over any base -/
structure ErrB (P : Program) (w : World) (K : PySem.W.Frag) (mg : Str → Option Value) (base : Heap) (x : Str) (C : Addr) (fld : Str) : Prop where
  oex : OexB K C
  no : PySem.W.findIn K (.ref C) fld = some none
  gl : mg x = some (.ref C)
  ini : ∃ fI fd, PySem.W.findIn K (.ref C) "__init__" = some (some (.ref fI)) ∧ PySem.W.typeIn K (.ref fI) = some (.type "function") ∧ FnOk P w K mg base CX0 1 fI fd ["self", fld] (spErr C fld) ∧ L2.Binds K fd ["self", fld] []
theorem errB_init {P : Program} {w : World} {K : PySem.W.Frag} {mg : Str → Option Value} {base : Heap} {qual fld : Str} {st : Stmt} {f C : Addr} {fd : FuncData} (F : Fun K "__init__" qual st f fd) (S : FnScope ["self", fld] ["self", fld] (defScope st)) (T : OexB K C) (no : PySem.W.findIn K (.ref C) fld = some none)
    (hb : ∀ (cdv : Value) (A : Around) (outer : List Env) (s : Shared) (H : Hp) (E : XK), PSs (cxOf CX0 P w K mg base ["self", fld] qual (defScope st) f cdv A outer s H E).nox (defBody st) (tOstB K fld (tVar 0) (tVar 1))) : FnOk P w K mg base CX0 1 f fd ["self", fld] (spErr C fld) := by
  refine F.ok S (fun vs H Q E h => ?_) (fun cdv A outer s H vs Q E hr h => ?_)
  · obtain ⟨a, v, rfl, _⟩ := h; rfl
  obtain ⟨a, v, rfl, ha, q⟩ := h
  exact ⟨_, hb cdv A outer s H E, _, rfl, _, rfl, a, C, rfl, T, no, ha, fun dx h1 h2 => q dx h1 h2⟩
theorem pmk_errB {X : Cx} {x fld : Str} {C : Addr} {e : Expr} {te : TE} {p pos : Pos} (T : ErrB X.prog X.w X.K X.mg X.base x C fld) (hr : Room 2 X.A) (he : PE X e te) (hg : Gl X x := by rfl) (hdb : (x == ("__debug__" : Str)) = false := by decide)
    (hse : starEach [e] X.env = (false, eval e X.env) :: starEach [] X.env := by rfl) (hpl : (backTo pos (starEach [] X.env)).any (·.1) = false := by rfl) : PMk X (.Call (.Name x p) [e] [] pos) (tMkO C (spErr C fld) [] (tCons te tNil)) := by
  obtain ⟨fI, fd, h1, h2, h3, h4⟩ := T.ini
  exact pmk_oexB (X := X) (p := p) (pos := pos) T.oex h1 h2 h3 hr h4 (fun _ _ _ _ _ _ _ (z : False) => z.elim) hg T.gl (pa_cons he pa_nil hse) hdb hse hpl
end Ts
namespace Ts
open PySem PySem.Spec PyProof.Rows L2 L2H LamX
/-! ## what repr says, of any kind of value that a law hands in -/
/-- data without dicts, or an empty dict -/
inductive ShW (K : PySem.W.Frag) (H : Hp) : V → Str → Prop
  | data {v : V} {d : PyData} : Dp K H v d → d.showable = true → d.hasDict = false → d.depth < 60 → d.shown.length ≤ sizeLine → ShW K H v d.shown
  | emp {a : Addr} : H a = some (.dK []) → ShW K H (.ref a) "{}"
theorem ShW.mono {K : PySem.W.Frag} {H H' : Hp} {v : V} {t : Str} (h : ShW K H v t) (s : Same H H') : ShW K H' v t := by
  cases h with
  | data a b c d e => exact .data (a.mono s) b c d e
  | emp a => exact .emp (s _ _ a)
/-! ## a call that is heard, anew: repr by ShE of what an error keeps, by ShO of what comes back; errors without a field, too -/
/-! ## methods that raise -/
end Ts
namespace Ts
open PySem PySem.Spec PyProof.Rows L2 L2H LamX
/-! ## repr of own objects, alone or in a tuple or list of one -/
def LotR (K : PySem.W.Frag) (C : Addr) : Addr → Hp → Str → Prop := fun a H t => ∃ (n : Nat) (js : List Job), LotAt K C H a n js ∧ n ≤ 1000 ∧ js.length ≤ 20 ∧ t = reprS js.length n
theorem LotR.ins {K : PySem.W.Frag} {C a : Addr} {H : Hp} {t : Str} (h : LotR K C a H t) : ∃ dx fs, H a = some (.ins C dx fs) := by
  obtain ⟨n, js, L, _⟩ := h
  obtain ⟨dx, pn, ps, pt, ha, _⟩ := L.ex
  exact ⟨dx, _, ha⟩
end Ts
namespace Ts
open PySem PySem.Spec PyProof.Rows L2 L2H LamX
/-- data, an empty dict, a lot, or a tuple or a list of one lot -/
inductive ShC (K : PySem.W.Frag) (C : Addr) (H : Hp) : V → Str → Prop
  | w {v : V} {t : Str} : ShW K H v t → ShC K C H v t
  | lot {a : Addr} {t : Str} : LotR K C a H t → ShC K C H (.ref a) t
  | tup {p a : Addr} {t : Str} : H p = some (.tup [.ref a]) → LotR K C a H t → ShC K C H (.ref p) (tupleText [t])
  | lst {p a : Addr} {t : Str} : H p = some (.lst [.ref a]) → LotR K C a H t → ShC K C H (.ref p) (listText [t])
theorem LotR.mono {K : PySem.W.Frag} {C a : Addr} {H H' : Hp} {t : Str} (h : LotR K C a H t) (s : Same H H') : LotR K C a H' t := by
  obtain ⟨n, js, L, h⟩ := h
  exact ⟨n, js, L.mono s, h⟩
theorem LotR.len {K : PySem.W.Frag} {C a : Addr} {H : Hp} {t : Str} (h : LotR K C a H t) : t.length ≤ 40 := by
  obtain ⟨n, js, L, h1, h2, rfl⟩ := h
  have l5 := numS_len (n := js.length) (by omega)
  have l6 := numS_len h1
  unfold reprS
  have l1 : (Str.ofString "Lot of ").length = 7 := by decide
  have l2 : (Str.ofString " works, ").length = 8 := by decide
  have l3 : (Str.ofString " hands").length = 6 := by decide
  rw [strLen_append, strLen_append, strLen_append, strLen_append, l1, l2, l3]
  omega
theorem ShC.mono {K : PySem.W.Frag} {C : Addr} {H H' : Hp} {v : V} {t : Str} (h : ShC K C H v t) (s : Same H H') : ShC K C H' v t := by
  cases h with
  | w a => exact .w (a.mono s)
  | lot a => exact .lot (a.mono s)
  | tup a b => exact .tup (s _ _ a) (b.mono s)
  | lst a b => exact .lst (s _ _ a) (b.mono s)
end Ts
namespace Ts
open PySem PySem.Spec PyProof.Rows L2 L2H LamX
/-! ## any value: data, or an empty dict -/
def AnyV (K : PySem.W.Frag) (H : Hp) (v : V) : Option PyData → Prop
  | some d => Dp K H v d
  | none => ∃ a, v = .ref a ∧ H a = some (.dK [])
theorem AnyV.mono {K : PySem.W.Frag} {H H' : Hp} {v : V} {o : Option PyData} (h : AnyV K H v o) (s : Same H H') : AnyV K H' v o := by
  cases o with
  | none => obtain ⟨a, e, h⟩ := h; exact ⟨a, e, s _ _ h⟩
  | some d => exact (show Dp K H v d from h).mono s
theorem AnyV.ext {K : PySem.W.Frag} {H H' : Hp} {v : V} {o : Option PyData} (h : AnyV K H v o) (s : ExtN H H') : AnyV K H' v o := by
  cases o with
  | none => obtain ⟨a, e, h⟩ := h; exact ⟨a, e, s _ _ h fun _ z => by cases z⟩
  | some d => exact dp_ext s _ _ h
def tyN : Option PyData → String
  | none => "dict"
  | some .none => "NoneType"
  | some (.bool _) => "bool"
  | some (.int _) => "int"
  | some (.str _) => "str"
  | some (.list _) => "list"
  | some (.tuple _) => "tuple"
  | some (.dict _) => "dict"
theorem AnyV.ty {K : PySem.W.Frag} {H : Hp} {v : V} {o : Option PyData} (h : AnyV K H v o) : TyX K H v (.type (tyN o)) := by
  cases o with
  | none => obtain ⟨a, rfl, h⟩ := h; exact .base (.dK h)
  | some d =>
    have h' : Dp K H v d := h
    cases h' with
    | non => exact .base .non
    | bl b => exact .base (.bl b)
    | int i => exact .base (.int i)
    | str x => exact .base (.str x)
    | lst a b => exact SqL.ty a
    | tup a b => exact SqT.ty a
theorem AnyV.kind {K : PySem.W.Frag} {H : Hp} {v : V} {o : Option PyData} (h : AnyV K H v o) : KindV K H v (o.bind kindD) := by
  cases o with
  | none => obtain ⟨a, rfl, h⟩ := h; exact ⟨"dict", by decide, .base (.dK h)⟩
  | some d => exact dp_kind h
/-! ## what is a name, what is a share -/
/-- the value is not too long -/
def shortV : Option PyData → Prop
  | some (.str t) => t.length ≤ 100 ∧ PyData.strOk t = true
  | some (.tuple ds) => ds.length ≤ 100
  | _ => True
/-! ## put, given anything -/
end Ts
namespace Ts
open PySem PySem.Spec PyProof.Rows L2 L2H LamX
/-! ## odd values, drawn -/
structure OddV (K : PySem.W.Frag) (H : Hp) (v : V) (o : Option PyData) (sh : Str) : Prop where
  av : AnyV K H v o
  sv : ShW K H v sh
  lv : shortV o
  ok : PyData.strOk sh = true
theorem OddV.mono {K : PySem.W.Frag} {H H' : Hp} {v : V} {o : Option PyData} {sh : Str} (h : OddV K H v o sh) (s : Same H H') : OddV K H' v o sh := ⟨h.av.mono s, h.sv.mono s, h.lv, h.ok⟩
theorem OddV.ext {K : PySem.W.Frag} {H H' : Hp} {v : V} {o : Option PyData} {sh : Str} (h : OddV K H v o sh) (s : ExtN H H') : OddV K H' v o sh := by
  refine ⟨h.av.ext s, ?_, h.lv, h.ok⟩
  cases h.sv with
  | data a b c d e => exact .data (dp_ext s _ _ a) b c d e
  | emp a => exact .emp (s _ _ a fun _ z => by cases z)
theorem OddV.of {K : PySem.W.Frag} {H : Hp} {v : V} {d : PyData} (h : Dp K H v d) (h1 : d.showable = true) (h2 : d.hasDict = false) (h3 : d.depth < 60) (h4 : d.shown.length ≤ sizeLine) (h5 : PyData.strOk d.shown = true) (h6 : shortV (some d)) : OddV K H v (some d) d.shown := ⟨h, .data h h1 h2 h3 h4, h6, h5⟩
theorem OddV.emp {K : PySem.W.Frag} {H : Hp} {a : Addr} (h : H a = some (.dK [])) : OddV K H (.ref a) none "{}" := ⟨⟨a, rfl, h⟩, .emp h, trivial, by decide +kernel⟩
theorem strOk_all {t : Str} (h : PyData.strOk t = true) : ∀ c ∈ t.cps.toList, c < 0x110000 := fun c hc => by
  unfold PyData.strOk at h
  rw [← Array.all_toList] at h
  exact of_decide_eq_true (List.all_eq_true.mp h c hc)
end Ts
namespace Ts
open PySem PySem.Spec PyProof.Rows L2 L2H LamX
/-! ## texts of plain signs are written soundly -/
theorem chars_ok {q c : Nat} (hq : q = 34 ∨ q = 39) (hc : c < 128) : ∀ d ∈ Builtin.Str.reprChar q c, d < 0x110000 := by
  have go : ∀ q ∈ [34, 39], ∀ c : Fin 128, ((Builtin.Str.reprChar q c.val).all fun d => decide (d < 0x110000)) = true := by decide +kernel
  intro d hd
  have hq' : q ∈ [34, 39] := by rcases hq with rfl | rfl <;> decide
  exact of_decide_eq_true (List.all_eq_true.mp (go q hq' ⟨c, hc⟩) d hd)
theorem fold_ok {q : Nat} (hq : q = 34 ∨ q = 39) : ∀ (l : List Nat) (acc : Array Nat), (∀ c ∈ l, c < 128) → (∀ d ∈ acc.toList, d < 0x110000) → ∀ d ∈ (l.foldl (fun out c => out ++ (Builtin.Str.reprChar q c).toArray) acc).toList, d < 0x110000
  | [], acc, _, h => h
  | c :: l, acc, hl, h => by
    refine fold_ok hq l _ (fun x hx => hl x (List.mem_cons_of_mem _ hx)) fun d hd => ?_
    rw [Array.toList_append] at hd
    rcases List.mem_append.mp hd with z | z
    · exact h d z
    · exact chars_ok hq (hl c List.mem_cons_self) d (by simpa using z)
theorem text_ok {x : Str} (h : Plain x) : PyData.strOk (PyData.str x).shown = true := by
  show PyData.strOk (reprText x) = true
  unfold reprText
  have hq : reprQuote x = 34 ∨ reprQuote x = 39 := by
    unfold reprQuote
    split
    · exact .inl rfl
    · exact .inr rfl
  unfold PyData.strOk
  rw [← Array.all_toList, Array.toList_push, ← Array.foldl_toList]
  refine List.all_eq_true.mpr fun d hd => decide_eq_true ?_
  have q0 : reprQuote x < 0x110000 := by rcases hq with e | e <;> rw [e] <;> decide
  rcases List.mem_append.mp hd with z | z
  · refine fold_ok hq x.cps.toList _ (fun c hc => h c hc) (fun d hd => ?_) d z
    have : d = reprQuote x := by simpa using hd
    rw [this]; exact q0
  · rw [List.mem_singleton.mp z]; exact q0
theorem plain_ok {x : Str} (h : Plain x) : PyData.strOk x = true := by
  unfold PyData.strOk
  rw [← Array.all_toList]
  exact List.all_eq_true.mpr fun c hc => decide_eq_true (Nat.lt_trans (h c hc) (by decide))
theorem OddV.str {K : PySem.W.Frag} {H : Hp} {x : Str} (h : Plain x) (hl : x.length ≤ 100) : OddV K H (.str x) (some (.str x)) (PyData.str x).shown := by
  obtain ⟨a, b, c, d⟩ := (nice_str (e := 0) h hl).fits (by decide) (by decide)
  exact OddV.of (.str x) a b c d (text_ok h) ⟨hl, plain_ok h⟩
theorem two_ok {a b : Nat} (ha : a ≤ 16) (hb : b ≤ 32) : PyData.strOk (PyData.tuple [.int (a : Int), .int (b : Int)]).shown = true := by
  have go : ∀ (a : Fin 17) (b : Fin 33), PyData.strOk (PyData.tuple [.int ((a.val : Nat) : Int), .int ((b.val : Nat) : Int)]).shown = true := by decide +kernel
  exact go ⟨a, by omega⟩ ⟨b, by omega⟩
theorem OddV.two {K : PySem.W.Frag} {H : Hp} {q : Addr} {a b : Nat} (h : SqT K H q [.int (a : Int), .int (b : Int)]) (ha : a ≤ 16) (hb : b ≤ 32) : OddV K H (.ref q) (some (partD a b)) (PyData.tuple [.int (a : Int), .int (b : Int)]).shown := by
  obtain ⟨x, y, z, w⟩ := (fine_pair (a := a) (b := b) (by omega) (by omega)).fits (by decide) (by decide)
  exact OddV.of (.tup h (.cons (.int _) (.cons (.int _) .nil))) x y z w (two_ok ha hb) (by show 2 ≤ 100; decide)
/-- values of which each one is odd -/
def OddAll (K : PySem.W.Frag) (H : Hp) (xs : List V) : Prop := ∀ v ∈ xs, ∃ o sh, OddV K H v o sh
theorem OddAll.mono {K : PySem.W.Frag} {H H' : Hp} {xs : List V} (h : OddAll K H xs) (s : Same H H') : OddAll K H' xs := fun v hv => by
  obtain ⟨o, sh, g⟩ := h v hv
  exact ⟨o, sh, g.mono s⟩
theorem OddAll.nil {K : PySem.W.Frag} {H : Hp} : OddAll K H [] := fun v hv => by cases hv
theorem OddAll.cons {K : PySem.W.Frag} {H : Hp} {v : V} {o : Option PyData} {sh : Str} {xs : List V} (h : OddV K H v o sh) (t : OddAll K H xs) : OddAll K H (v :: xs) := fun u hu => by
  rcases List.mem_cons.mp hu with rfl | z
  · exact ⟨o, sh, h⟩
  · exact t u z
/-! ## lots stay but for tables -/
theorem LotAt.ext {K : PySem.W.Frag} {C : Addr} {H H' : Hp} {a : Addr} {n : Nat} {js : List Job} (L : LotAt K C H a n js) (s : ExtN H H') : LotAt K C H' a n js := by
  obtain ⟨dx, pn, ps, pt, h1, ⟨ob, h2, h5⟩, h3, h4⟩ := L.ex
  exact ⟨dx, pn, ps, pt, s _ _ h1 (fun _ z => by cases z), ⟨ob, s _ _ h2 (fun _ z => by cases z), h5⟩, dp_ext s _ _ h3, dp_ext s _ _ h4⟩
theorem Ph.kept {T : List (Addr × Str)} {b lt : Addr} {due : Option (Str × Str)} {H5 Hn : Hp} {xs : List V} {ws : List (Str × Str)} (h : Ph T b lt due H5 Hn xs ws) : Same (hid2 b H5) (hid2 b Hn) := fun a o e => by
  obtain ⟨n, t, e2⟩ := hid2_some (hid2_ext h.s a o e)
  exact hid2_of n t (hid2_sub _ _ e2)
/-! ## what is heard of put -/
end Ts
namespace Ts
open PySem PySem.Spec PyProof.Rows L2 L2H LamX
/-! ## lots and names, given anything -/
abbrev plainT : List String := ["dict", "NoneType", "bool", "int", "str", "list", "tuple"]
/-- a value that is no lot -/
def NoLot (K : PySem.W.Frag) (H : Hp) (v : V) : Prop := ∃ T, T ∈ plainT ∧ TyX K H v (.type T)
theorem NoLot.mono {K : PySem.W.Frag} {H H' : Hp} {v : V} (h : NoLot K H v) (s : Same H H') : NoLot K H' v := by
  obtain ⟨T, h1, h2⟩ := h
  exact ⟨T, h1, TyX.mono h2 s⟩
theorem NoLot.ext {K : PySem.W.Frag} {H H' : Hp} {v : V} (h : NoLot K H v) (s : ExtN H H') : NoLot K H' v := by
  obtain ⟨T, h1, h2⟩ := h
  exact ⟨T, h1, TyX.ext h2 s⟩
/-- a lot, or none -/
def LotOr (K : PySem.W.Frag) (C : Addr) (H : Hp) (v : V) : Option (Nat × List Job) → Prop
  | some p => ∃ a, v = .ref a ∧ LotAt K C H a p.1 p.2
  | none => NoLot K H v
theorem LotOr.mono {K : PySem.W.Frag} {C : Addr} {H H' : Hp} {v : V} {o : Option (Nat × List Job)} (h : LotOr K C H v o) (s : Same H H') : LotOr K C H' v o := by
  cases o with
  | none => exact NoLot.mono h s
  | some p => obtain ⟨a, e, L⟩ := h; exact ⟨a, e, L.mono s⟩
theorem LotOr.ext {K : PySem.W.Frag} {C : Addr} {H H' : Hp} {v : V} {o : Option (Nat × List Job)} (h : LotOr K C H v o) (s : ExtN H H') : LotOr K C H' v o := by
  cases o with
  | none => exact NoLot.ext h s
  | some p => obtain ⟨a, e, L⟩ := h; exact ⟨a, e, L.ext s⟩
theorem Raise1.mono {C : Addr} {fld : Str} {v : V} {H H' : Hp} {E : XK} (h : Raise1 C fld v H E) (s : Same H H') : Raise1 C fld v H' E := fun H2 d s2 => h H2 d (s.trans s2)
end Ts
namespace Ts
open PySem PySem.Spec PyProof.Rows L2 L2H LamX
/-! ## what is heard of lots -/
/-! ## things that are no lots -/
structure NoLotV (K : PySem.W.Frag) (C : Addr) (H : Hp) (v : V) (sh : Str) : Prop where
  no : NoLot K H v
  sv : ShC K C H v sh
  ok : PyData.strOk sh = true
theorem ShC.ext {K : PySem.W.Frag} {C : Addr} {H H' : Hp} {v : V} {t : Str} (h : ShC K C H v t) (s : ExtN H H') : ShC K C H' v t := by
  have lx : ∀ {a : Addr} {t : Str}, LotR K C a H t → LotR K C a H' t := fun ⟨n, js, L, z⟩ => ⟨n, js, L.ext s, z⟩
  cases h with
  | w a =>
    cases a with
    | data a b c d e => exact .w (.data (dp_ext s _ _ a) b c d e)
    | emp a => exact .w (.emp (s _ _ a fun _ z => by cases z))
  | lot a => exact .lot (lx a)
  | tup a b => exact .tup (s _ _ a fun _ z => by cases z) (lx b)
  | lst a b => exact .lst (s _ _ a fun _ z => by cases z) (lx b)
theorem NoLotV.mono {K : PySem.W.Frag} {C : Addr} {H H' : Hp} {v : V} {sh : Str} (h : NoLotV K C H v sh) (s : Same H H') : NoLotV K C H' v sh := ⟨h.no.mono s, h.sv.mono s, h.ok⟩
theorem NoLotV.ext {K : PySem.W.Frag} {C : Addr} {H H' : Hp} {v : V} {sh : Str} (h : NoLotV K C H v sh) (s : ExtN H H') : NoLotV K C H' v sh := ⟨h.no.ext s, h.sv.ext s, h.ok⟩
theorem NoLotV.str {K : PySem.W.Frag} {C : Addr} {H : Hp} {x : Str} (h : Plain x) (hl : x.length ≤ 1000) : NoLotV K C H (.str x) (PyData.str x).shown := by
  obtain ⟨a, b, c, d⟩ := (nice_str (e := 0) h hl).fits (by decide) (by decide)
  exact ⟨⟨"str", by decide, .base (.str x)⟩, .w (.data (.str x) a b c d), text_ok h⟩
theorem strOk_app {x y : Str} (h : PyData.strOk x = true) (g : PyData.strOk y = true) : PyData.strOk (x ++ y) = true := by
  unfold PyData.strOk at h g ⊢
  rw [← Array.all_toList] at h g ⊢
  refine List.all_eq_true.mpr fun c hc => ?_
  have hc' : c ∈ (x.cps ++ y.cps).toList := hc
  rw [Array.toList_append] at hc'
  exact (List.mem_append.mp hc').elim (List.all_eq_true.mp h c) (List.all_eq_true.mp g c)
theorem NoLotV.tup {K : PySem.W.Frag} {C : Addr} {H : Hp} {p a : Addr} {n : Nat} {js : List Job} (h : H p = some (.tup [.ref a])) (L : LotAt K C H a n js) (hn : n ≤ 6) (hl : js.length ≤ 6) : NoLotV K C H (.ref p) (tupleText [reprS js.length n]) :=
  ⟨⟨"tuple", by decide, .base (.tup h)⟩, .tup h ⟨n, js, L, by omega, by omega, rfl⟩, by
    show PyData.strOk (("(" : Str) ++ Str.join ", " [reprS js.length n] ++ (",)" : Str)) = true
    exact strOk_app (strOk_app (by decide +kernel) (plain_ok (plain_repr _ _))) (by decide +kernel)⟩
theorem NoLotV.lst {K : PySem.W.Frag} {C : Addr} {H : Hp} {p a : Addr} {n : Nat} {js : List Job} (h : H p = some (.lst [.ref a])) (L : LotAt K C H a n js) (hn : n ≤ 6) (hl : js.length ≤ 6) : NoLotV K C H (.ref p) (listText [reprS js.length n]) :=
  ⟨⟨"list", by decide, .base (.lst h)⟩, .lst h ⟨n, js, L, by omega, by omega, rfl⟩, by
    show PyData.strOk ((("[" : Str) ++ (("" : String) : Str) ++ reprS js.length n) ++ ("]" : Str)) = true
    exact strOk_app (strOk_app (strOk_app (by decide +kernel) (by decide +kernel)) (plain_ok (plain_repr _ _))) (by decide +kernel)⟩
end Ts
namespace Ts
open PySem PySem.Spec PyProof.Rows L2 L2H LamX
theorem cut_top {xs : List V} {i : Nat} : cutV xs none (some (i : Int)) = xs.take i := by
  unfold cutV
  rw [HT.sIx_none, HT.sIx_nat, List.drop_zero, Nat.sub_zero]
  by_cases h : i ≤ xs.length
  · rw [Nat.min_eq_left h]
  · rw [Nat.min_eq_right (by omega), List.take_of_length_le (Nat.le_refl _), List.take_of_length_le (by omega)]
end Ts
namespace Ts
open PySem PySem.Spec PyProof.Rows L2 L2H LamX
/-- values that are no lots -/
def NoLots (K : PySem.W.Frag) (C : Addr) (H : Hp) (xs : List V) : Prop := ∀ v ∈ xs, ∃ sh, NoLotV K C H v sh
theorem NoLots.nil {K : PySem.W.Frag} {C : Addr} {H : Hp} : NoLots K C H [] := fun v hv => by cases hv
theorem NoLots.cons {K : PySem.W.Frag} {C : Addr} {H : Hp} {v : V} {sh : Str} {xs : List V} (h : NoLotV K C H v sh) (t : NoLots K C H xs) : NoLots K C H (v :: xs) := fun u hu => by
  rcases List.mem_cons.mp hu with rfl | z
  · exact ⟨sh, h⟩
  · exact t u z
end Ts
namespace Ts
/-! ## crews as numbers -/
def crewN (ms : List Nat) : Nat := (ms.map fun m => 2 ^ m).sum
def posL {α : Type} (p : α → Bool) : List α → Nat → List Nat
  | [], _ => []
  | x :: r, i => if p x = true then i :: posL p r (i + 1) else posL p r (i + 1)
theorem crew_snoc (ms : List Nat) (m : Nat) : crewN (ms ++ [m]) = crewN ms + 2 ^ m := by simp [crewN]
theorem posL_lt {α : Type} (p : α → Bool) : ∀ (l : List α) (i : Nat), crewN (posL p l i) + 2 ^ i ≤ 2 ^ (i + l.length)
  | [], i => by simp [posL, crewN]
  | x :: r, i => by
    have ih := posL_lt p r (i + 1)
    have e : i + (x :: r).length = i + 1 + r.length := by simp; omega
    rw [e]
    unfold posL
    have e2 : 2 ^ (i + 1) = 2 ^ i + 2 ^ i := by rw [Nat.pow_succ]; omega
    have e3 := Nat.two_pow_pos i
    split
    · show (2 ^ i + crewN (posL p r (i + 1))) + 2 ^ i ≤ _
      omega
    · omega
theorem posL_lt0 {α : Type} (p : α → Bool) (l : List α) : crewN (posL p l 0) < 2 ^ l.length := by
  have := posL_lt p l 0
  rw [Nat.zero_add, Nat.pow_zero] at this; omega
theorem posL_snoc {α : Type} (p : α → Bool) : ∀ (l : List α) (i : Nat) (x : α), posL p (l ++ [x]) i = posL p l i ++ if p x = true then [i + l.length] else []
  | [], i, x => by
    show (if p x = true then i :: [] else []) = [] ++ _
    simp
  | y :: r, i, x => by
    show (if p y = true then i :: posL p (r ++ [x]) (i + 1) else posL p (r ++ [x]) (i + 1)) = (if p y = true then i :: posL p r (i + 1) else posL p r (i + 1)) ++ _
    rw [posL_snoc p r (i + 1) x]
    have e : i + 1 + r.length = i + (y :: r).length := by simp; omega
    rw [e]
    split <;> simp
def sizesN : Nat → List Nat
  | 0 => [0]
  | n + 1 => sizesN n ++ (sizesN n).map (· + 1)
def subsN : Nat → List (List Nat)
  | 0 => [[0]]
  | n + 1 => subsN n ++ (subsN n).map fun w => w ++ w.map (· + 2 ^ n)
theorem sizes_len : ∀ n, (sizesN n).length = 2 ^ n
  | 0 => rfl
  | n + 1 => by rw [sizesN, List.length_append, List.length_map, sizes_len n, Nat.pow_succ]; omega
theorem subs_len : ∀ n, (subsN n).length = 2 ^ n
  | 0 => rfl
  | n + 1 => by rw [subsN, List.length_append, List.length_map, subs_len n, Nat.pow_succ]; omega
/-- what lies within a crew is no greater, and of the same works -/
theorem subs_in : ∀ n, ∀ w ∈ subsN n, w.length ≤ 2 ^ n ∧ ∀ p ∈ w, p < 2 ^ n
  | 0, w, h => by
    have e : w = [0] := by simpa [subsN] using h
    subst e
    refine ⟨by decide, fun p hp => ?_⟩
    have : p = 0 := by simpa using hp
    subst this; decide
  | n + 1, w, h => by
    have e2 : 2 ^ (n + 1) = 2 ^ n + 2 ^ n := by rw [Nat.pow_succ]; omega
    rcases List.mem_append.mp h with h | h
    · obtain ⟨a, b⟩ := subs_in n w h
      exact ⟨by omega, fun p hp => by have := b p hp; omega⟩
    · obtain ⟨u, hu, rfl⟩ := List.mem_map.mp h
      obtain ⟨a, b⟩ := subs_in n u hu
      refine ⟨by rw [List.length_append, List.length_map]; omega, fun p hp => ?_⟩
      rcases List.mem_append.mp hp with hp | hp
      · have := b p hp; omega
      · obtain ⟨q, hq, rfl⟩ := List.mem_map.mp hp
        have := b q hq; omega
/-! ## the walk back -/
/-- the standings of a crew's subsets, as a number -/
def possN (n c : Nat) : Nat := crewN ((subsN n).getD c [])
def notAheadN (n at_ : Nat) : Nat := crewN (((subsN n).getD (2 ^ n - 1) []).filter fun a => a / 2 ^ at_ % 2 == 0)
def stepN (grown at_ others given idle : Nat) : Nat :=
  if grown / 2 ^ at_ % 2 = 1 then given ||| ((idle &&& others) * 2 ^ 2 ^ at_) else idle ||| ((given / 2 ^ 2 ^ at_) &&& others)
/-- pairs of what comes with a hand and without one -/
def pairN (found : List Nat) : List (Nat × Nat) := (found ++ [0]).zip (0 :: found)
def foundN (grown : Nat) : List Nat → Nat → List Nat → List Nat
  | [], _, found => found
  | o :: os, at_, found => foundN grown os (at_ + 1) ((pairN found).map fun q => stepN grown at_ o q.2 q.1)
def beforeN (after grown : Nat) (na : List Nat) (most : Nat) : Nat := ((foundN grown na 0 [after]).take (most + 1)).foldl (· ||| ·) 0
end Ts
namespace Ts
open PySem PySem.Spec PyProof.Rows L2
/-! ## bits of numbers from 0 on -/
/-- of one crew those that are not in the other -/
def needN (g a : Nat) : Nat := g - (g &&& a)
def xorN (g a : Nat) : Nat := (g ||| a) - (g &&& a)
theorem need_le (g a : Nat) : needN g a ≤ g := Nat.sub_le _ _
/-! ## lists of numbers -/
abbrev natV (ms : List Nat) : List V := ms.map fun m : Nat => V.int (m : Int)
abbrev natD (ms : List Nat) : List PyData := ms.map fun m : Nat => PyData.int (m : Int)
def membersN (c : Nat) : List Nat := (List.range (Builtin.Int.intBits (c : Int))).filter fun a => c / 2 ^ a % 2 == 1
def grownL (xs ys : List Int) : Nat := crewN (posL (fun q : Int × Int => decide (q.1 < q.2)) (xs.zip ys) 0)
abbrev subsD (n : Nat) : List PyData := (subsN n).map fun w => PyData.list (natD w)
/-! ## what is asked -/
end Ts
namespace Ts
open PySem PySem.Spec PyProof.Rows L2
/-! ## rules that name the keeper -/
/-! ## a walk -/
def lowsR (js : List Job) (t : Nat) : List Int := js.map fun j => lowI j.2.1 j.2.2 (t : Int)
def doubN (js : List Job) (t : Nat) : Nat := crewN (posL (fun j : Job => decide (lowI j.2.1 j.2.2 (t : Int) < highI j.2.1 j.2.2 (t : Int))) js 0)
def growN (js : List Job) (t : Nat) : Nat := grownL (lowsR js t) (lowsR js (t + 1))
def naL (n : Nat) : List Nat := (List.range n).map (notAheadN n)
def livK (js : List Job) (hs : List Nat) : Nat → Nat
  | 0 => possN js.length (doubN js hs.length)
  | k + 1 => beforeN (livK js hs k) (growN js (hs.length - (k + 1))) (naL js.length) (hs.getD (hs.length - (k + 1)) 0) &&& possN js.length (doubN js (hs.length - (k + 1)))
def livL (js : List Job) (hs : List Nat) : List Nat := if livK js hs hs.length = 0 then List.replicate (hs.length + 1) 0 else (List.range (hs.length + 1)).map fun m => livK js hs (hs.length - m)
def Seq (K : PySem.W.Frag) (H : Hp) (a : Addr) (xs : List V) : Prop := SqL K H a xs ∨ SqT K H a xs
theorem Seq.mono {K : PySem.W.Frag} {H H' : Hp} {a : Addr} {xs : List V} (h : Seq K H a xs) (s : Same H H') : Seq K H' a xs := h.imp (fun z => s.seq z) fun z => sameT s z
abbrev rowsD (js : List Job) (m : Nat) : List PyData := (List.range m).map fun t => PyData.list ((lowsR js t).map PyData.int)
/-- the fields of a walk but the last one -/
structure WalkF (K : PySem.W.Frag) (H : Hp) (fs : List (Str × V)) (js : List Job) (hs : List Nat) : Prop where
  ticks : fs.lookup ("ticks" : Str) = some (.int (hs.length : Int))
  most : ∃ a, fs.lookup ("most" : Str) = some (.ref a) ∧ Seq K H a (natV hs)
  sizes : ∃ a, fs.lookup ("sizes" : Str) = some (.ref a) ∧ SqL K H a (natV (sizesN js.length))
  parts : ∃ v, fs.lookup ("parts" : Str) = some v ∧ Dp K H v (.list (subsD js.length))
  lows : ∃ v, fs.lookup ("lows" : Str) = some v ∧ Dp K H v (.list (rowsD js (hs.length + 1)))
  doubles : ∃ a, fs.lookup ("doubles" : Str) = some (.ref a) ∧ SqL K H a (natV ((List.range (hs.length + 1)).map (doubN js)))
  grown : ∃ a, fs.lookup ("grown" : Str) = some (.ref a) ∧ SqL K H a (natV ((List.range hs.length).map (growN js)))
theorem WalkF.mono {K : PySem.W.Frag} {H H' : Hp} {fs : List (Str × V)} {js : List Job} {hs : List Nat} (h : WalkF K H fs js hs) (s : Same H H') : WalkF K H' fs js hs := by
  obtain ⟨a, ⟨b1, b2, b3⟩, ⟨c1, c2, c3⟩, ⟨d1, d2, d3⟩, ⟨e1, e2, e3⟩, ⟨f1, f2, f3⟩, ⟨g1, g2, g3⟩⟩ := h
  exact ⟨a, ⟨b1, b2, b3.mono s⟩, ⟨c1, c2, s.seq c3⟩, ⟨d1, d2, d3.mono s⟩, ⟨e1, e2, e3.mono s⟩, ⟨f1, f2, s.seq f3⟩, ⟨g1, g2, s.seq g3⟩⟩
structure WalkAt (K : PySem.W.Frag) (C : Addr) (H : Hp) (a : Addr) (js : List Job) (hs : List Nat) : Prop where
  ex : ∃ dx fs, H a = some (.ins C dx fs) ∧ WalkF K H fs js hs ∧ (∃ p, fs.lookup ("living" : Str) = some (.ref p) ∧ SqL K H p (natV (livL js hs))) ∧ fs.lookup ("crews" : Str) = none ∧ fs.lookup ("is_alive" : Str) = none ∧ fs.lookup ("choices" : Str) = none ∧ fs.lookup ("ahead_behind" : Str) = none ∧ fs.lookup ("ahead_before" : Str) = none ∧ fs.lookup ("numbers_of" : Str) = none
theorem WalkAt.mono {K : PySem.W.Frag} {C : Addr} {H H' : Hp} {a : Addr} {js : List Job} {hs : List Nat} (h : WalkAt K C H a js hs) (s : Same H H') : WalkAt K C H' a js hs := by
  obtain ⟨dx, fs, h1, h2, ⟨p, h3, h4⟩, h5⟩ := h.ex
  exact ⟨dx, fs, s _ _ h1, h2.mono s, ⟨p, h3, s.seq h4⟩, h5⟩
/-! ## what is asked -/
/-! ## bounds -/
theorem doub_lt (js : List Job) (t : Nat) : doubN js t < 2 ^ js.length := posL_lt0 _ _
/-! ## what stays when an object gets a field -/
end Ts
namespace Ts
open PySem PySem.Spec PyProof.Rows L2
/-! ## what a walk tells -/
def aliveB (js : List Job) (hs : List Nat) (m c : Nat) : Bool := decide ((livL js hs).getD m 0 / 2 ^ c % 2 = 1)
def crewsN (js : List Job) (hs : List Nat) (m a : Nat) : List Nat :=
  (((subsN js.length).getD (needN (doubN js (m + 1)) (xorN (growN js m) a)) []).filter fun p => decide ((sizesN js.length).getD p 0 + (sizesN js.length).getD (needN (growN js m) a) 0 ≤ hs.getD m 0)).map (needN (growN js m) a + ·)
def choicesN (js : List Job) (hs : List Nat) (m a : Nat) : List Nat := (crewsN js hs m a).filter fun c => (livL js hs).getD (m + 1) 0 / 2 ^ (a + c - growN js m) % 2 == 1
end Ts
namespace Ts
open PySem PySem.Spec PyProof.Rows L2
/-! ## rows of numbers sorted, the first of them empty -/
theorem first_lex : ∀ (ns ms : List Int) (fin : Bool), fin = decide (ns.length < ms.length) → SeqAt.firstLt (fun j => decide (ns.getD j 0 = ms.getD j 0)) (fun j => decide (ns.getD j 0 < ms.getD j 0)) fin (List.range (min ns.length ms.length)) = HT.lexLt ns ms := by
  intro ns
  induction ns with
  | nil =>
    intro ms fin hf
    rw [List.length_nil, Nat.zero_min, List.range_zero]
    show fin = _
    cases ms with
    | nil => rw [HT.lexLt_nil_nil, hf]; rfl
    | cons y ms => rw [HT.lexLt_nil_cons, hf]; exact decide_eq_true (by simp)
  | cons x ns ih =>
    intro ms fin hf
    cases ms with
    | nil =>
      rw [List.length_nil, Nat.min_zero, List.range_zero]
      show fin = _
      rw [HT.lexLt_cons_nil, hf]; exact decide_eq_false (by simp)
    | cons y ms =>
      rw [HT.lexLt_cons, List.length_cons, List.length_cons, Nat.succ_min_succ, List.range_succ_eq_map]
      show (if decide (x = y) = true then SeqAt.firstLt _ _ fin ((List.range (min ns.length ms.length)).map Nat.succ) else decide (x < y)) = _
      by_cases e : x = y
      · rw [if_pos (decide_eq_true e), if_pos e, W.firstLt_map]
        exact ih ms fin (by rw [hf]; simp)
      · rw [if_neg (by simpa using e), if_neg e]
section
variable {prog : Program} {w : World} {A : Around} {E : Value → Shared → Prop} {s : Shared}
theorem ints_at {vs : List Value} {ns : List Int} (h : IntsAre vs ns) : vs.length = ns.length ∧ ∀ (j : Nat) (h1 : j < vs.length), ∃ t, vs[j] = Value.int (ns.getD j 0) t := by
  induction h with
  | nil => exact ⟨rfl, fun j h => absurd h (Nat.not_lt_zero _)⟩
  | cons n t _ ih =>
    refine ⟨by rw [List.length_cons, List.length_cons, ih.1], fun j h1 => ?_⟩
    cases j with
    | zero => exact ⟨t, rfl⟩
    | succ j => exact ih.2 j (by simpa using h1)
/-- x < y of two rows, by their own way to compare -/
theorem rows_one (hu : A.units < cLine) {x y : Value} {ns ms : List Int} (hx : TS.TupInts s.heap x ns) (hy : TS.TupInts s.heap y ms) {Q : Bool → Shared → Prop} (q : Q (HT.lexLt ns ms) s) : wpAny (model prog w) A (oneLt' true x y) Q E s := by
  obtain ⟨a, xs, rfl, ⟨⟨c1, dd, dt, sl⟩, ho, hc, n, hd⟩, i1⟩ := hx
  obtain ⟨b, ys, rfl, ⟨⟨c2, dd2, dt2, sl2⟩, ho2, hc2, n2, hd2⟩, i2⟩ := hy
  dsimp only at hc hd hc2 hd2
  subst hc hd hc2 hd2
  obtain ⟨l1, a1⟩ := ints_at i1
  obtain ⟨l2, a2⟩ := ints_at i2
  rw [Array.length_toList] at l1 l2
  rw [oneLt'_eq]
  show wpAny _ _ (cRoomFor "comparison" [Value.ref a, Value.ref b] >>= fun _ => callSpecialIfBound? (.ref a) (Str.ofString "__lt__") [.ref b] >>= fun r => _) _ _ _
  refine wpAny_bind (wpAny_cRoomFor hu ?_)
  refine wpAny_bind (wpAny_callSpecialIfBound?_slot (T := "tuple") ⟨_, ho, rfl⟩ PySem.F.slot_tuple_lt ?_)
  refine call_meets PySem.F.slot_tuple_lt ⟨_, ho, rfl⟩ PySem.F.entry_tuple_lt (PySem.F.args_tuple_lt_2 _ _) (SeqAt.tuple_ltAt a b xs ys n n2 dd dd2 sl sl2 (fun j => decide (ns.getD j 0 = ms.getD j 0)) (fun j => decide (ns.getD j 0 < ms.getD j 0))) ⟨ho, ho2, fun j h1 h2 => ?_, fun j h1 h2 _ => ?_, ?_⟩
  · obtain ⟨t, e1⟩ := a1 j (by rw [Array.length_toList]; exact h1)
    obtain ⟨u, e2⟩ := a2 j (by rw [Array.length_toList]; exact h2)
    rw [Array.getElem_toList] at e1 e2
    rw [e1, e2]
    have := SeqAt.EqAt.int_int (A := A.in1) (s := s) (ns.getD j 0) t (ms.getD j 0) u
    exact this
  · obtain ⟨t, e1⟩ := a1 j (by rw [Array.length_toList]; exact h1)
    obtain ⟨u, e2⟩ := a2 j (by rw [Array.length_toList]; exact h2)
    rw [Array.getElem_toList] at e1 e2
    rw [e1, e2]
    exact fun prog w E Q h => PySem.P.lt_int h
  · rw [l1, l2, first_lex ns ms _ rfl]
    exact wpAny_truthy_bool q
theorem types_go : ∀ (vs : List Value) {Q : List Value → Shared → Prop}, (∀ v ∈ vs, ∃ ns, TS.TupInts s.heap v ns) → Q (List.replicate vs.length (.type "tuple")) s → wpAny (model prog w) A (List.mapM typeOf vs) Q E s
  | [], Q, _, q => by rw [List.mapM_nil]; exact wpAny_pure q
  | v :: vs, Q, g, q => by
    rw [List.mapM_cons]
    obtain ⟨ns, a, xs, rfl, ⟨o, ho, hc, n, hd⟩, _⟩ := g v List.mem_cons_self
    refine wpAny_bind (wpAny_typeOf (T := "tuple") ⟨o, ho, hc⟩ (wpAny_bind ?_))
    exact types_go vs (fun u hu => g u (List.mem_cons_of_mem _ hu)) (wpAny_pure q)
theorem firsts_go : ∀ (vs : List Value) {Q : List (Option Value) → Shared → Prop}, (∀ v ∈ vs, ∃ ns, TS.TupInts s.heap v ns) → (∀ l : List (Option Value), (∀ (v : Value) (r : List Value), vs = v :: r → TS.TupInts s.heap v [] → l[0]? = some none) → Q l s) → wpAny (model prog w) A (List.mapM firstOfTuple' vs) Q E s
  | [], Q, _, q => by rw [List.mapM_nil]; exact wpAny_pure (q [] fun v r e => by cases e)
  | v :: vs, Q, g, q => by
    rw [List.mapM_cons]
    obtain ⟨ns, a, xs, rfl, ⟨o, ho, hc, n, hd⟩, hi⟩ := g v List.mem_cons_self
    refine wpAny_bind (show wpAny _ _ (typeOf (.ref a) >>= fun t => if (t != Value.type "tuple") = true then pure none else Builtin.List.listItems (.ref a) >>= fun xs => pure xs[0]?) _ _ _ from ?_)
    refine wpAny_bind (wpAny_typeOf (T := "tuple") ⟨o, ho, hc⟩ ?_)
    rw [if_neg (by decide)]
    refine wpAny_bind (show wpAny _ _ (Builtin.List.listItems (.ref a)) _ _ _ from ?_)
    unfold Builtin.List.listItems
    refine wpAny_bind (wpAny_seqItems ho hd (wpAny_pure (wpAny_pure (wpAny_bind ?_))))
    refine firsts_go vs (fun u hu => g u (List.mem_cons_of_mem _ hu)) fun l _ => wpAny_pure (q _ fun v r e hv => ?_)
    obtain ⟨a2, xs2, e2, ⟨o2, ho2, _, n2, hd2⟩, hi2⟩ := hv
    cases e
    cases e2
    rw [ho] at ho2
    cases ho2
    rw [hd] at hd2
    cases hd2
    have : xs.toList = [] := by cases h : xs.toList with
      | nil => rfl
      | cons y ys => rw [h] at hi2; cases hi2
    have e0 : xs[0]? = none := by
      have := congrArg (fun l : List Value => l[0]?) this
      simpa using this
    rw [e0]; rfl
theorem kind_one {v : Value} {vs : List Value} (h0 : TS.TupInts s.heap v []) (g : ∀ u ∈ v :: vs, ∃ ns, TS.TupInts s.heap u ns) {Q : SortKind → Shared → Prop} (q : Q oneType' s) : wpAny (model prog w) A (keyKind' (v :: vs).toArray) Q E s := by
  rw [keyKind'_eq, List.mapM_toArray, map_eq_pure_bind]
  refine wpAny_bind (wpAny_bind (firsts_go (v :: vs) g fun l hl => wpAny_pure ?_))
  have e0 := hl v vs rfl h0
  have c1 : l.toArray.all (fun x => x.isSome) = false := by
    rw [List.all_toArray']
    cases l with
    | nil => cases e0
    | cons y l => cases e0; rfl
    rfl
  rw [if_neg (by rw [c1]; decide)]
  have c2 : (l.toArray[0]?.bind id).isSome = false := by
    have : l.toArray[0]? = some none := by simpa using e0
    rw [this]; rfl
  rw [if_neg (by rw [c2]; decide)]
  refine wpAny_bind (show wpAny _ _ (Array.mapM typeOf (v :: vs).toArray >>= fun ts => match ts[0]? with | some t => pure (if (ts.all fun x => x == t) = true then some t else none) | none => pure none) _ _ _ from ?_)
  rw [List.mapM_toArray, map_eq_pure_bind]
  refine wpAny_bind (wpAny_bind (types_go (v :: vs) g (wpAny_pure ?_)))
  have c3 : (List.replicate (v :: vs).length (Value.type "tuple")).toArray.all (fun x => x == Value.type "tuple") = true := by
    rw [List.all_toArray', List.all_eq_true]
    · intro x hx
      rw [List.eq_of_mem_replicate hx]; exact beq_self_eq_true _
    · rfl
  have c4 : (List.replicate (v :: vs).length (Value.type "tuple")).toArray[0]? = some (Value.type "tuple") := by
    rw [List.length_cons, List.replicate_succ]; rfl
  rw [c4]
  dsimp only
  rw [if_pos c3]
  exact wpAny_pure (wpAny_pure q)
theorem rows_cmp1 (hu : A.units < cLine) {vs : List Value} {k : Value → List Int} (hp : ∀ v ∈ vs, TS.TupInts s.heap v (k v)) : SrtO.Cmp prog w A s oneType' (fun p => p.1 ∈ vs) (SrtO.lt2 (ltL k)) := by
  intro p q h1 h2
  show wpAny (model prog w) A (oneLt' true p.1 q.1) (fun r s' => s' = s ∧ r = HT.lexLt (k p.1) (k q.1)) (fun _ _ => False) s
  exact rows_one hu (hp _ h1) (hp _ h2) ⟨rfl, rfl⟩
theorem rows_sortedE (hu : A.in1.in1.units < cLine) {l : Addr} {vs : List Value} {k : Value → List Int} {Q : Value → Shared → Prop} (hl : s.heap.IsList l vs.toArray) (hz : vs.length ≤ sizeLine) (hp : ∀ v ∈ vs, TS.TupInts s.heap v (k v)) (h1 : ∀ v ∈ vs.tail, 1 ≤ (k v).length)
    (h : ∀ (h2 : Heap) (d : Addr) (out : List Value), SrtO.Srtd (ltL k) out → SrtO.Stb (ltL k) out vs → (∀ b o, s.heap.get? b = some o → h2.get? b = some o) → s.heap.objs.size ≤ d → (∃ n, h2.get? d = some (seqObj "list" out.toArray n)) → Q (.ref d) { s with heap := h2 }) :
    wpAny (model prog w) A (call (.builtin "sorted") [.ref l]) Q E s := by
  refine SrtO.sorted_ord (NtL.swo_lexL k) hl hz (fun g2 h₁ a ha kk => ?_) fun out hs hb => ?_
  · have not : ∀ o, h₁.get? a = some o → o.cls ≠ .type "tuple" := fun o e => by
      have e2 : some o = some (seqObj "list" vs.toArray 0) := e.symm.trans ha
      cases e2
      exact fun c => absurd (Value.type.inj c) (by decide)
    have g1 : ∀ v ∈ vs, TS.TupInts h₁ v (k v) := fun v z => (hp v z).keeps fun b o e _ => (kk b o e).2
    match vs, g1, h1, g2 with
    | v :: vs, g1, h1, g2 =>
      by_cases c : k v = []
      · intro h2 keep
        have g : ∀ u ∈ v :: vs, TS.TupInts h2 u (k u) := fun u z => (g1 u z).keeps fun b o e c => keep b o (fun y => by subst y; exact not o e c) e
        refine ⟨oneType', fun Q E hq => ?_, rows_cmp1 hu g⟩
        have g0 := g v List.mem_cons_self
        rw [c] at g0
        exact kind_one (s := { s with heap := h2 }) g0 (fun u hu => ⟨_, g u hu⟩) hq
      · refine rows_able (s := { s with heap := h₁ }) (by omega) (fun u z => ⟨g1 u z, ?_⟩) not
        rcases List.mem_cons.mp z with rfl | z
        · cases e : k u with
          | nil => exact absurd e c
          | cons _ _ => simp
        · exact h1 u z
  · exact h _ _ out hs hb (fun b o e => sortedAll_old e) (Nat.le_succ _) (sortedAll_at s.heap vs out.toArray)
end
/-- sorted(xs), xs a list of rows of numbers, the first one perhaps empty -/
def rSortE (K : PySem.W.Frag) : List V → Hp → VK → Prop := fun vs H Q => ∃ (a : Addr) (xs : List V) (rows : List (List Int)), vs = [V.ref a] ∧ SqL K H a xs ∧ DpAll K H xs (rows.map rowD) ∧ (∀ r ∈ rows.tail, 1 ≤ r.length) ∧
  ∀ (ys : List V) (rows2 : List (List Int)) (p : Addr), DpAll K H ys (rows2.map rowD) → SrtO.Srtd HT.lexLt rows2 → SrtO.Stb HT.lexLt rows2 rows → H p = none → Q (.ref p) (upd H p (.lst ys))
theorem tail_map {α β : Type} (f : α → β) : ∀ l : List α, (l.map f).tail = l.tail.map f
  | [] => rfl
  | _ :: _ => rfl
theorem cr_sortE {X : Cx} (hu : X.A.in1.in1.units < cLine) : CallR X (.builtin "sorted") (rSortE X.K) := by
  intro pins s σ H vs us Q I r h
  obtain ⟨a, xs, rows, rfl, hs, hx, hl, q⟩ := h
  have at_row : ∀ (i : Nat) (x : V), xs[i]? = some x → ∃ (r : List Int) (t : Addr), rows[i]? = some r ∧ x = .ref t ∧ SqT X.K H t (r.map V.int) := fun i x e => by
    obtain ⟨d, hd, hv⟩ := hx.get e
    rw [List.getElem?_map] at hd
    cases er : rows[i]? with
    | none => rw [er] at hd; cases hd
    | some r0 =>
      rw [er] at hd
      cases Option.some.inj hd
      obtain ⟨t, rz, rfl, h1, h2⟩ := hv.tuple
      cases h2.ints_eq
      exact ⟨r0, t, rfl, rfl, h1⟩
  let k : V → List Int := fun x => match x with
    | .ref t => TS.intsOf s.heap (.ref t)
    | _ => []
  have kt : ∀ {t : Addr} {r : List Int}, SqT X.K H t (r.map V.int) → k (.ref t) = r := fun h => (tupI_raw I h).ints
  have lx : xs.length = rows.length := by rw [hx.length, List.length_map]
  have ek : xs.map k = rows := by
    refine List.ext_getElem? fun i => ?_
    rw [List.getElem?_map]
    cases e : xs[i]? with
    | none => rw [List.getElem?_eq_none_iff] at e; exact (List.getElem?_eq_none_iff.mpr (by omega)).symm
    | some x =>
      obtain ⟨r0, t, er, rfl, ht⟩ := at_row i x e
      rw [er]
      show some (k (.ref t)) = some r0
      rw [kt ht]
  have mem_row : ∀ x ∈ xs, ∃ t, x = V.ref t ∧ SqT X.K H t ((k x).map V.int) := fun x m => by
    obtain ⟨i, e⟩ := List.mem_iff_getElem?.mp m
    obtain ⟨r0, t, er, rfl, ht⟩ := at_row i x e
    rw [kt ht]
    exact ⟨t, rfl, ht⟩
  obtain ⟨its, rv, hl2, hz⟩ := I.list hs
  rw [Vals.ref1 r]
  obtain ⟨e1, e2⟩ := bkV_refs rv fun x m => by
    obtain ⟨t, e, _⟩ := mem_row x m
    exact ⟨t, e⟩
  refine rows_sortedE hu (k := fun u => k (bkV u)) hl2.isList (by rw [← rv.length]; exact hz) (fun v hv => ?_) (fun v hv => ?_) fun h2 d out o1 o2 kp hd hn => ?_
  · obtain ⟨t, rfl⟩ := e2 v hv
    obtain ⟨t2, e, ht⟩ := mem_row (.ref t) (by rw [e1]; exact List.mem_map.mpr ⟨_, hv, rfl⟩)
    cases e
    exact tupI_raw I ht
  · refine hl _ ?_
    rw [← ek, tail_map, e1, tail_map, List.map_map]
    exact List.mem_map.mpr ⟨v, hv, rfl⟩
  · have h3 : ∀ u ∈ out, ∃ a, u = Value.ref a := fun u hu => e2 u (o2.perm.mem_iff.mp hu)
    obtain ⟨n, hn⟩ := hn
    have hb : SrtO.Stb (ltL k) (out.map bkV) xs := by
      rw [e1]
      exact SrtO.Stb.map (NtL.swo_lexL k) bkV o2
    have all : ∀ zs : List V, (∀ z ∈ zs, z ∈ xs) → DpAll X.K H zs ((zs.map k).map rowD) := by
      intro zs
      induction zs with
      | nil => intro _; exact .nil
      | cons z zs ih =>
        intro g
        obtain ⟨t, e, ht⟩ := mem_row z (g z List.mem_cons_self)
        refine .cons ?_ (ih fun y m => g y (List.mem_cons_of_mem _ m))
        rw [e] at ht ⊢
        exact .tup ht (DpAll.ints _)
    have st := SrtO.Stb.map (NtL.swo_lexL (fun x : List Int => x)) k (l := out.map bkV) (m := xs) hb
    rw [ek] at st
    refine ⟨.ref d, upd H d (.lst (out.map bkV)), I.laid (t' := s.toks) kp hd ⟨?_, out, n, bkV_vals h3, hn⟩, rfl, q (out.map bkV) ((out.map bkV).map k) d (all _ fun z m => hb.perm.mem_iff.mp m) (SrtO.srtd_map (f := k) (lt := HT.lexLt) (SrtO.srtd_map o1)) st (I.hok.fresh hd)⟩
    rw [hb.len]
    exact hz
end Ts
namespace Ts
open PySem PySem.Spec PyProof.Rows L2 L2H LamX
/-! ## the bag that the later laws draw from -/
/-- at b: where draws come from; the seed is not too great -/
def Bag (H : Hp) (b : Addr) : Prop := ∃ x y z : Int, 0 ≤ x ∧ x < 2147483587 ∧ H b = some (.lst [.int x, .int y, .int z])
theorem Bag.bas {H : Hp} {b : Addr} (h : Bag H b) : Bas H b := by
  obtain ⟨x, y, z, _, _, e⟩ := h
  exact ⟨x, y, z, e⟩
theorem Bag.on {H H' : Hp} {b : Addr} (h : Bag H b) (s : Same H H') : Bag H' b := by
  obtain ⟨x, y, z, h1, h2, e⟩ := h
  exact ⟨x, y, z, h1, h2, s _ _ e⟩
theorem Bag.ext {H H' : Hp} {b : Addr} (h : Bag H b) (s : ExtN H H') : Bag H' b := by
  obtain ⟨x, y, z, h1, h2, e⟩ := h
  exact ⟨x, y, z, h1, h2, s _ _ e fun _ q => nomatch q⟩
theorem Bag.off {H : Hp} {b p : Addr} (h : Bag H b) (hp : H p = none) : p ≠ b := h.bas.off hp
theorem Bag.ne {H : Hp} {b p : Addr} {xs : List V} (h : Bag H b) (hp : H p = some (.tup xs)) : p ≠ b := fun z => by
  obtain ⟨x, y, w, _, _, e⟩ := h
  rw [z, e] at hp; cases hp
def spTake : Sp := fun vs H Q _ => ∃ (b : Addr) (m : Int), vs = [.ref b, .int m] ∧ Bag H b ∧ 0 < m ∧ m < 1073741824 ∧
  ∀ (r : Int) (H' : Hp), 0 ≤ r → r < m → But b H H' → Bag H' b → Q (.int r) H'
def spBag (K : PySem.W.Frag) : Sp := fun vs H Q _ => ∃ (a : Addr) (ns : List Int) (i : Nat), vs = [.ref a, .int i] ∧ SqL K H a (ns.map V.int) ∧ ns.length ≤ 63 ∧ i < 63 ∧
  ∀ (b : Addr) (H' : Hp), H b = none → Same H H' → Bag H' b → Q (.ref b) H'
/-- one of the things of a list -/
def spOne : Sp := fun vs H Q _ => ∃ (b l : Addr) (xs : List V), vs = [.ref b, .ref l] ∧ Bag H b ∧ l ≠ b ∧ H l = some (.lst xs) ∧ 0 < xs.length ∧ xs.length ≤ 1000 ∧
  ∀ (i : Nat) (x : V) (H' : Hp), xs[i]? = some x → But b H H' → Bag H' b → Q x H'
/-! ## the greatest common divisor, in so many steps -/
def gstep (p : Nat × Nat) : Nat × Nat := if 0 < p.2 then (p.2, p.1 % p.2) else p
def gits : Nat → Nat × Nat → Nat × Nat
  | 0, p => p
  | n + 1, p => gits n (gstep p)
theorem gits_succ : ∀ (n : Nat) (p : Nat × Nat), gits (n + 1) p = gstep (gits n p)
  | 0, _ => rfl
  | n + 1, p => by
    show gits (n + 1) (gstep p) = _
    rw [gits_succ n (gstep p)]; rfl
theorem gstep_gcd (p : Nat × Nat) : Nat.gcd (gstep p).1 (gstep p).2 = Nat.gcd p.1 p.2 := by
  unfold gstep
  split
  · show Nat.gcd p.2 (p.1 % p.2) = _
    rw [Nat.gcd_comm p.2, ← Nat.gcd_rec, Nat.gcd_comm]
  · rfl
theorem gits_gcd : ∀ (n : Nat) (p : Nat × Nat), Nat.gcd (gits n p).1 (gits n p).2 = Nat.gcd p.1 p.2
  | 0, _ => rfl
  | n + 1, p => (gits_gcd n (gstep p)).trans (gstep_gcd p)
theorem gstep2_half (p : Nat × Nat) : 2 * (gstep (gstep p)).2 ≤ p.2 := by
  obtain ⟨a, b⟩ := p
  show 2 * (gstep (gstep (a, b))).2 ≤ b
  unfold gstep
  by_cases h : 0 < b
  · rw [if_pos (show 0 < (a, b).2 from h)]
    by_cases h2 : 0 < a % b
    · rw [if_pos (show 0 < ((b, a % b) : Nat × Nat).2 from h2)]
      show 2 * (b % (a % b)) ≤ b
      have l1 : a % b < b := Nat.mod_lt _ h
      have l2 : b % (a % b) < a % b := Nat.mod_lt _ h2
      have e := Nat.div_add_mod b (a % b)
      have q : 1 ≤ b / (a % b) := Nat.div_pos (Nat.le_of_lt l1) h2
      have m : (a % b) * 1 ≤ (a % b) * (b / (a % b)) := Nat.mul_le_mul_left _ q
      omega
    · rw [if_neg (show ¬ 0 < ((b, a % b) : Nat × Nat).2 from h2)]
      show 2 * (a % b) ≤ b
      omega
  · rw [if_neg (show ¬ 0 < (a, b).2 from h), if_neg (show ¬ 0 < (a, b).2 from h)]
    show 2 * b ≤ b
    omega
theorem gits_zero : ∀ (k : Nat) (p : Nat × Nat), p.2 < 2 ^ k → (gits (2 * k) p).2 = 0
  | 0, p, h => by
    have : p.2 < 1 := h
    show p.2 = 0
    omega
  | k + 1, p, h => by
    have e : 2 * (k + 1) = 2 * k + 1 + 1 := by omega
    rw [e]
    show (gits (2 * k) (gstep (gstep p))).2 = 0
    refine gits_zero k _ ?_
    have := gstep2_half p
    rw [Nat.pow_succ] at h
    omega
theorem gits_end {a b : Nat} (h : b < 2 ^ 200) : (gits 400 (a, b)).1 = Nat.gcd a b := by
  have z := gits_zero 200 (a, b) h
  have g := gits_gcd 400 (a, b)
  rw [show 2 * 200 = 400 from rfl] at z
  rw [z, Nat.gcd_zero_right] at g
  exact g
def spCommon : Sp := fun vs H Q _ => ∃ (a b : Nat), vs = [.int a, .int b] ∧ b < 2 ^ 200 ∧ Q (.int (Nat.gcd a b : Nat)) H
/-- a share drawn from a menu of bottoms -/
def spShareOf (K : PySem.W.Frag) : Sp := fun vs H Q _ => ∃ (b l : Addr) (ms : List Nat), vs = [.ref b, .ref l] ∧ Bag H b ∧ l ≠ b ∧ H l = some (.lst (ms.map fun m : Nat => V.int (m : Int))) ∧ 0 < ms.length ∧ ms.length ≤ 1000 ∧ (∀ m ∈ ms, 1 ≤ m ∧ m ≤ 1000) ∧
  ∀ (e p : Nat) (q : Addr) (H' : Hp), GoodPart 1000 e p → (∃ m ∈ ms, p ≤ m) → H q = none → But b H H' → Bag H' b → H' q = some (.tup [.int (e : Int), .int (p : Int)]) → Q (.ref q) H'
end Ts
namespace Ts
open PySem PySem.Spec PyProof.Rows L2 L2H LamX
/-! ## first, *rest = a tuple that is not empty: rest is a new list -/
def gStarT (K : PySem.W.Frag) (i j : Nat) : TG := fun v σ H Q => ∃ a x xs, v = .ref a ∧ SqT K H a (x :: xs) ∧ xs.length ≤ 16000 ∧ ∀ p, H p = none → Q ((σ.set i (some x)).set j (some (.ref p))) (upd H p (.lst xs))
section
variable {X : Cx}
theorem pg_starT {i j : Nat} {x y : Str} {k : Nat} {px py ps tp : Pos} (hc : X.calm = true) (hN : X.N.Nodup) (hi : X.N[i]? = some x) (hj : X.N[j]? = some y) (hx : X.env.scope.names.lookup x = some .local) (hy : X.env.scope.names.lookup y = some .local)
    (he : assignEach [.Name x px, .Starred (.Name y py) ps] X.env = [(false, assign (.Name x px) X.env), (true, assign (.Name y py) X.env)] := by rfl) :
    PG X (.Tuple [.Name x px, .Starred (.Name y py) ps] k tp) (gStarT X.K i j) := by
  refine ⟨fun pins s σ H v u Q I r hw => ?_⟩
  obtain ⟨a, z, zs, rfl, hs, hz, q⟩ := hw
  obtain rfl : u = Value.ref a := r
  obtain ⟨its, rv, L, _⟩ := I.tuple hs
  cases rv with
  | @cons _ w1 _ ws r1 rr =>
    have wl : ws.length = zs.length := rr.length.symm
    have al : a < s.heap.objs.size := by obtain ⟨o, ho, _⟩ := L; exact Heap.lt_size ho
    have al' : a ≠ s.heap.objs.size := Nat.ne_of_lt al
    rw [PyProof.Rows.assign_Tuple]
    refine wpAny_bind (wpAny_standAt ?_)
    unfold unpack
    rw [he]
    show wpAny _ _ (holding [Value.ref a] (unpackItems (.ref a) 2 (some 1)) >>= fun vs => assignInOrder [assign (.Name x px) X.env, assign (.Name y py) X.env] vs) _ _ s
    refine wpAny_bind (wpAny_holding ?_)
    unfold unpackItems
    refine wpAny_bind (show wpAny _ _ (notIterableAtAll (.ref a)) _ _ _ from ?_)
    unfold notIterableAtAll
    refine wpAny_bind (wpAny_specialOf L.typeIs slot_tuple_iter.lookup (wpAny_pure ?_))
    simp only [Bool.false_eq_true, if_false]
    refine wpAny_bind (wpAny_holding (iter_tuple L (wpAny_bind (wpAny_holding ?_))))
    refine draw_tuple al' 1 0 _ _ ⟨_, Heap.get?_push_size _ rfl, rfl, rfl⟩ (L.push _) (by simp) fun h1 t1 s1 => ?_
    have L1 : IsTup h1 a (w1 :: ws).toArray := (L.push _).extBut s1.extBut al'
    have t1' : h1.IsTupleIter s.heap.objs.size a 1 := t1
    have l1 : s.heap.objs.size < h1.objs.size := by obtain ⟨o, ho, _⟩ := t1'; exact Heap.lt_size ho
    have l2 : a < h1.objs.size := by obtain ⟨o, ho, _⟩ := L1; exact Heap.lt_size ho
    have sz : (w1 :: ws).toArray.size = ws.length + 1 := by simp
    show wpAny _ _ (if ([w1] : List Value).length < 1 then _ else _) _ _ _
    rw [if_neg (show ¬ ([w1] : List Value).length < 1 from Nat.lt_irrefl 1)]
    have W := Walks.tuple (prog := X.prog) (w := X.w) (A := X.A.in1) (I.ok.hd hc) s.heap.objs.size a al' (w1 :: ws).toArray
    refine wpAny_bind (wpAny_holding (PySem.W.kun_collect (T := "tuple_iterator") (.inr (.inr (.inr rfl))) W (fun j u st => st.1.typeIs) (k := 1) (by rw [sz]; omega) (And.intro t1' L1) l1 l2 (fun h2 tk hk => ?_) (by rw [sz, sizeLine_eq]; omega)))
    have dr : (w1 :: ws).toArray.toList.drop 1 = ws := by simp
    rw [dr]
    show wpAny _ _ (if ws.length < 0 then _ else _) _ _ _
    rw [if_neg (Nat.not_lt_zero _)]
    show wpAny _ _ (newList (ws.take (ws.length - 0)) >>= fun d => pure ([w1] ++ [d] ++ ws.drop (ws.length - 0))) _ _ _
    rw [Nat.sub_zero, List.take_length, List.drop_length]
    have I1 : Inv X pins σ H { s with heap := h2, toks := tk } := I.kept fun b o e => hk b o (Nat.ne_of_lt (Heap.lt_size e)) (s1.extBut b o (Nat.ne_of_lt (Heap.lt_size e)) (Heap.get?_push_of_some _ e))
    refine wpAny_bind (show wpAny _ _ (newList ws) _ _ _ from wpAny_newObj_type (wpAny_pure ?_) (by show ws.toArray.size ≤ sizeLine; rw [List.size_toArray, sizeLine_eq]; omega))
    have hp := I1.hok.fresh (Nat.le_refl h2.objs.size)
    have I2 : Inv X pins σ (upd H h2.objs.size (.lst zs)) { s with heap := h2.push { cls := .type "list", data := .seq ws.toArray }, toks := tk } :=
      I1.laid (t' := tk) (fun b o e => Heap.get?_push_of_some _ e) (Nat.le_refl _) ⟨by rw [sizeLine_eq]; omega, ws, 0, rr, Heap.get?_push_size _ rfl⟩
    show wpAny _ _ (assignInOrder [assign (.Name x px) X.env, assign (.Name y py) X.env] [w1, Value.ref h2.objs.size]) _ _ _
    refine assignInOrder_cons (wpAny_assign_Name (store_ok I2 hN hi (.inl hx) r1 (fun s3 I3 => ?_) (.inr hx)))
    refine assignInOrder_cons (wpAny_assign_Name (store_ok (v := V.ref h2.objs.size) I3 hN hj (.inl hy) rfl (fun s4 I4 => assignInOrder_nil ⟨_, _, I4, q _ hp⟩) (.inr hy)))
/-! ## f(e, *y), f a local variable that holds a def which may raise -/
def tCallLS (i : Nat) (S : Addr → Option Sp) (W : WX) (t : TA) : TE := fun σ H Q => ∃ f sp, σ[i]? = some (some (.ref f)) ∧ S f = some sp ∧ t σ H fun vs H1 => sp vs H1 Q (WE W σ)
structure HeldX (P : Program) (w : World) (K : PySem.W.Frag) (mg : Str → Option Value) (base : Heap) (k : Nat) (f : Addr) (sp : Sp) : Prop where
  ex : ∃ (fd : FuncData) (ps : List Str), FnOk P w K mg base (L2.CX P w) k f fd ps sp ∧ PySem.W.keepIn K (.ref f) = true ∧ Binds K fd ps []
theorem pe_callLS {k i : Nat} {S : Addr → Option Sp} {W : WX} {x : Str} {p pos : Pos} {e : Expr} {es : List Expr} {t : TA} (A : ∀ f sp, S f = some sp → HeldX X.prog X.w X.K X.mg X.base k f sp) (hr : Room k X.A) (tk : Takes X W) (hN : X.N[i]? = some x) (hv : Vis X.env.scope x) (ha : PA X (e :: es) t)
    (hdb : (x == ("__debug__" : Str)) = false := by decide) (hcd : (x == ("__classdict__" : Str)) = false := by decide)
    (he : starEach (e :: es) X.env = (false, eval e X.env) :: starEach es X.env := by rfl) (hst : (backTo pos (starEach es X.env)).any (·.1) = true := by rfl) : PE X (.Call (.Name x p) (e :: es) [] pos) (tCallLS i S W t) := by
  refine ⟨fun pins s σ H Q I h => ?_⟩
  obtain ⟨f, sp, hs, hS, ht⟩ := h
  obtain ⟨fd, ps, F, hk, hb⟩ := (A f sp hS).ex
  refine wpAny_Call_Name_kw (thn ((pe_var (pos := p) hN hv hdb hcd).run pins s σ H (fun v H1 => v = .ref f ∧ H1 = H) I ⟨.ref f, hs, rfl, rfl⟩) fun u s1 ⟨v, H1, I1, r1, q1⟩ => ?_)
  obtain ⟨rfl, rfl⟩ := q1
  cases r1
  refine PySem.W.callWith_S2 (h₀ := X.base) I.ok.mod.kin hk (thn (ha.run pos pins s1 σ _ _ I1 ht) fun us s2 ⟨vs, H2, I2, r, q⟩ => ⟨I2.kIn, ?_⟩) he hst
  have hl : us.length = ps.length := by rw [← r.length]; exact F.len _ _ _ _ q
  have hbd := hb s2 us I2.kIn (by rw [List.append_nil]; exact hl)
  rw [List.append_nil] at hbd
  refine wpAny_call (codeAny_mono (F.run X.A X.stack s2 H2 ⟨us, []⟩ us vs Q (WE W σ) hr I2.env0 hbd r q) fun r s' hq => ?_)
  cases r with
  | error er => exact passAt tk σ pins H2 s2 er s' I2 hq
  | ok fl => cases fl with
    | ret u => exact I2.after hq
    | next => exact hq.elim
    | brk => exact hq.elim
    | cont => exact hq.elim
end
/-! ## try .. except (A, B): what is matched alone -/
def wPair (K : PySem.W.Frag) (cs : List Value) (ts : Addr → Value → Option Addr → TS) (D : Ends) : WX := fun cls d σ H => PySem.W.exmAny K cls cs = some true ∧ ∀ a, H a = none → ts a cls d D σ H
theorem ps_try_pair {X : Cx} {x1 x2 : Str} {c1 c2 : Value} {k1 : Nat} {body suite : List Stmt} {b₀ : Stmt} {np1 np2 tp pos pos' : Pos} {tb : WX → TS} {ts : Addr → Value → Option Addr → TS}
    (hs : X.stack = X.env :: X.outer) (hf : X.env.frame = some X.env.locals) (hc1 : Names X x1 c1) (hc2 : Names X x2 c2)
    (hb : ∀ (W : WX) (pn : List (Addr × Obj)) (xe : Value → Shared → Prop), Takes (X.tr pn xe) W → PassesOwn (model X.prog X.w) X.A X.env xe → PSs (X.tr pn xe) body (tb W))
    (hsu : ∀ (a : Addr) (oe : Obj) (cls : Value) (d : Option Addr) (pn : List (Addr × Obj)), Zc cls d oe → (∃ vs, oe.data = Data.fields vs) → PSs (X.suite a ((a, oe) :: pn)) (b₀ :: suite) (ts a cls d)) :
    PS X (.Try body [.ExceptHandler (some (.Tuple [.Name x1 np1, .Name x2 np2] k1 tp)) none (b₀ :: suite) pos'] [] [] pos) fun D σ H => tb (wPair X.K [c1, c2] ts D) D σ H := by
  refine ⟨fun pins s σ H D I h => ?_⟩
  have ok := I.ok
  have hfr : X.A.frames = some (X.env :: X.outer) := by rw [ok.frames, hs]
  refine wpAny_Try_except (wpAny_mono ((hb (wPair X.K [c1, c2] ts D) (X.pn ++ pins) (fun e s₁ => wpAny (model X.prog X.w) X.A (noteFrame e X.env) (fun _ s₂ => wpAny (model X.prog X.w) X.A (setFlight e none) (fun _ s₃ => wpAny (model X.prog X.w) X.A (handleBy e X.env [.ExceptHandler (some (.Tuple [.Name x1 np1, .Name x2 np2] k1 tp)) none (b₀ :: suite) pos']) (SP X pins D) X.xe s₃) X.xe s₂) X.xe s₁) (fun u s' xx => ?_) PassesOwn.looking).run [] s σ H D (I.toTry _) h) (fun f s1 hsp => ?_) (fun e s1 he => he))
  · obtain ⟨a, B, sI, pins', σ', H', cls, d, rfl, J', nb, up, sky, na, os, ag, hm, hyes⟩ := xx
    have J := J'.ofTry ok
    have sky' : Sky B (X.env :: X.outer) a (Zc cls d) X.env.locals s'.heap := by rw [← hs]; exact sky
    refine Sky.land Zc.steady hfr hf sky' fun h3 fl3 up3 => ?_
    have J3 := J.landed (s' := { heap := h3, gens := s'.gens, drawn := s'.drawn, toks := s'.toks, os := s'.os }) nb fl3.1 (up.trans up3) os ag
    obtain ⟨oe3, vs3, he3, hz3, hd3⟩ := HandSPX.FlyingZ.there fl3
    have nfr : a ∉ List.filterMap (fun x : Env => x.frame) (X.env :: X.outer) := fun hm => by
      obtain ⟨_, o', e', hnf⟩ := Heap.FunFrames.mem fl3.2.2.1 hm
      rw [he3] at e'
      cases e'
      exact hnf _ hd3
    have nL : a ≠ X.env.locals := fun z => nfr (List.mem_filterMap.mpr ⟨X.env, List.mem_cons_self, by rw [hf, z]⟩)
    have nF : a ∉ X.fs := fun hm => by
      obtain ⟨e, he, q⟩ := List.mem_filterMap.mp hm
      exact nfr (List.mem_filterMap.mpr ⟨e, List.mem_cons_of_mem _ he, q⟩)
    have S3 := J3.suite he3 hd3 na nL nF
    refine wpAny_handleBy_cons ?_ (fun q => by cases q)
    refine codeAny_handlers_test (wpAny_Tuple_spliced ?_)
    refine Calls.spliced_cons (ld_name S3 hc1 (Calls.spliced_cons (ld_name S3 hc2 (Calls.spliced_nil ?_))))
    have kp : ∀ (b : Addr) (o : Obj), h3.get? b = some o → (h3.push { cls := Value.type "tuple", data := Data.seq #[c1, c2] }).get? b = some o := fun b o e => Heap.get?_push_of_some _ e
    have tp3 : (h3.push { cls := Value.type "tuple", data := Data.seq #[c1, c2] }).get? h3.objs.size = some { cls := Value.type "tuple", data := Data.seq #[c1, c2] } := Heap.get?_push_size h3 rfl
    refine ⟨by show 2 ≤ sizeLine; decide, ?_⟩
    have fl5 := fly_keep kp fl3
    have up5 : h3.UpToSlots (h3.push { cls := Value.type "tuple", data := Data.seq #[c1, c2] }) := fun b o e _ => ⟨o.slots, kp b o e⟩
    have KX := (Inv.kIn J3).keeps kp
    have LM := PySem.W.exm_tup2 (M := model X.prog X.w) (e := a) KX (fun A Q E s k' q => wpAny_typeOf_ref (k' a oe3 (kp _ _ he3)) (by rw [hz3.1]; exact q)) tp3 hm
    revert fl5 up5 KX LM kp tp3
    generalize h3.push { cls := Value.type "tuple", data := Data.seq #[c1, c2] } = h5
    intro kp tp3 fl5 up5 KX LM
    refine PySem.W.Looks.here LM ?_
    refine codeAny_handlers_suite (HandSPX.lands_againZ fl5 fun h4 fl4 up4 => ?_)
    have J4 := J.landed (s' := { heap := h4, gens := s'.gens, drawn := s'.drawn, toks := s'.toks, os := s'.os }) nb fl4.1 (((up.trans up3).trans up5).trans up4) os ag
    obtain ⟨oe4, vs4, he4, hz4, hd4⟩ := HandSPX.FlyingZ.there fl4
    have S4 := J4.suite he4 hd4 na nL nF
    refine wpAny_mono ((hsu a oe4 cls d (X.pn ++ pins) hz4 ⟨vs4, hd4⟩).run [] _ _ H' _ S4 (hyes a na)) (fun f s6 hsp => ?_) (fun _ _ z => z.elim)
    cases f with
    | next => obtain ⟨σ6, H6, S6, q6⟩ := hsp; exact ⟨_, _, S6.unsuite ok, q6⟩
    | brk => obtain ⟨σ6, H6, S6, q6⟩ := hsp; exact ⟨_, _, S6.unsuite ok, q6⟩
    | cont => obtain ⟨σ6, H6, S6, q6⟩ := hsp; exact ⟨_, _, S6.unsuite ok, q6⟩
    | ret u => obtain ⟨v6, σ6, H6, S6, r6, q6⟩ := hsp; exact ⟨_, _, _, S6.unsuite ok, r6, q6⟩
  · cases f with
    | next => obtain ⟨σ', H', J', q⟩ := hsp; exact wpAny_execs_nil ⟨σ', H', J'.ofTry ok, q⟩
    | brk => obtain ⟨σ', H', J', q⟩ := hsp; exact ⟨σ', H', J'.ofTry ok, q⟩
    | cont => obtain ⟨σ', H', J', q⟩ := hsp; exact ⟨σ', H', J'.ofTry ok, q⟩
    | ret u => obtain ⟨v, σ', H', J', r, q⟩ := hsp; exact ⟨v, σ', H', J'.ofTry ok, r, q⟩
end Ts
namespace Ts
open PySem PySem.Spec PyProof.Rows L2 L2H LamX
theorem itT {b : Bool} {A B : Prop} (e : b = true) (h : A) : (if b = true then A else B) := by rw [if_pos e]; exact h
theorem itF {b : Bool} {A B : Prop} (e : b = false) (h : B) : (if b = true then A else B) := by rw [if_neg (by rw [e]; decide)]; exact h
/-! ## the sum of a tuple of ints -/
/-! ## certificates: () or not -/
def CertV (K : PySem.W.Frag) (H : Hp) (v : V) : Bool → Prop
  | true => ∃ p, v = .ref p ∧ SqT K H p []
  | false => (∃ p xs, v = .ref p ∧ SqT K H p xs ∧ xs ≠ []) ∨ ∃ T, T ∈ ["dict", "NoneType", "bool", "int", "str", "list"] ∧ TyX K H v (.type T)
theorem CertV.mono {K : PySem.W.Frag} {H H' : Hp} {v : V} {e : Bool} (h : CertV K H v e) (s : Same H H') : CertV K H' v e := by
  cases e with
  | true => obtain ⟨p, h1, h2⟩ := h; exact ⟨p, h1, sameT s h2⟩
  | false =>
    rcases h with ⟨p, xs, h1, h2, h3⟩ | ⟨T, h1, h2⟩
    · exact .inl ⟨p, xs, h1, sameT s h2, h3⟩
    · exact .inr ⟨T, h1, TyX.mono h2 s⟩
def spIsEmpty (K : PySem.W.Frag) : Sp := fun vs H Q _ => ∃ (v : V) (e : Bool), vs = [v] ∧ CertV K H v e ∧ Q (.bl e) H
/-! ## shares that fit a log -/
def keptZ (e p : Int) (t a : Int) : Bool := decide ((if a * p - t * e < 0 then -(a * p - t * e) else a * p - t * e) < p)
/-- a share at v; few ticks and moments -/
def spIsKept (K : PySem.W.Frag) : Sp := fun vs H Q _ => ∃ (v : V) (e p t a : Int), vs = [v, .int t, .int a] ∧ (∃ q, v = .ref q ∧ SqT K H q [.int e, .int p]) ∧ -(2 ^ 64) < t ∧ t < 2 ^ 64 ∧ -(2 ^ 64) < a ∧ a < 2 ^ 64 ∧ Q (.bl (keptZ e p t a)) H
/-! ## what the checker answers, for a claim with this word -/
def spAccW (K : PySem.W.Frag) (WV TM : Addr) (word : Str) (n : Nat) (spL : Sp) : Sp := fun vs H Q _ => ∃ (q : Addr) (vc : V) (args : List V) (d : Bool), vs = [.ref q, vc] ∧ SqT K H q (.str word :: args) ∧ args.length = n ∧
  (∀ H1, Same H H1 → ∀ (Q1 : VK) (E1 : XK), (∀ H2, Same H1 H2 → Q1 (.bl d) H2) → (d = false → ∀ (C : Addr) (dd : Option Addr) (H2 : Hp), Same H1 H2 → PySem.W.exmAny K (.ref C) [.ref WV, .ref TM] = some true → E1 (.ref C) dd H2) → spL (vc :: args) H1 Q1 E1) ∧
  ∀ H', Same H H' → Q (.bl d) H'
/-- asked in two ways -/
def spSaid (spA : Sp) : Sp := fun vs H Q _ => ∃ (a c : V) (d : Bool), vs = [a, c, .bl d] ∧ (∀ H', Same H H' → ∀ (Q' : VK) (E' : XK), (∀ H'', Same H' H'' → Q' (.bl d) H'') → spA [a, c] H' Q' E') ∧ ∀ H', Same H H' → Q (.bl true) H'
/-- an integer, no truth -/
def spWhole (K : PySem.W.Frag) : Sp := fun vs H Q _ => ∃ (v : V) (o : Option Int), vs = [v] ∧ KindV K H v o ∧ Q (.bl o.isSome) H
theorem but_free {b l : Addr} {H H' : Hp} (x : But b H H') (B : Bag H' b) (h : H' l = none) : H l = none := by
  cases e : H l with
  | none => rfl
  | some o =>
    have := x _ _ (B.off h) e
    rw [h] at this; cases this
theorem place_nat {n j : Nat} (hj : j < n) : ixN n (j : Int) = some j := by
  unfold ixN
  rw [if_pos (by omega), if_pos (by omega), Int.toNat_natCast]
end Ts
namespace Ts
open PySem PySem.Spec PyProof.Rows L2 L2H LamX
/-! ## logs as things -/
/-- a share kept at an address -/
def Shr (H : Hp) (b : Addr) (t : Addr × Nat × Nat) : Prop := t.1 ≠ b ∧ H t.1 = some (.tup [.int (t.2.1 : Int), .int (t.2.2 : Int)]) ∧ GoodPart 1000 t.2.1 t.2.2 ∧ t.2.2 ≤ 14
theorem CertV.empty {K : PySem.W.Frag} {H : Hp} {c : Addr} (h : SqT K H c []) : CertV K H (.ref c) true := ⟨c, rfl, h⟩
theorem Shr.lit {H : Hp} {b a : Addr} {e p : Nat} (n : a ≠ b) (h : H a = some (.tup [.int (e : Int), .int (p : Int)])) (g : GoodPart 1000 e p) (l : p ≤ 14) : Shr H b (a, e, p) := ⟨n, h, g, l⟩
end Ts
namespace Ts
open PySem PySem.Spec PyProof.Rows L2 L2H LamX
/-! ## the later laws' lots -/
def partJ (j : Job) : PyData := partD j.2.1 j.2.2
def spSumB (K : PySem.W.Frag) : Sp := fun vs H Q _ => ∃ (p : Addr) (js : List Job), vs = [.ref p] ∧ Dp K H (.ref p) (.list (js.map partJ)) ∧ Good 16 js ∧ js.length ≤ 6 ∧ ∀ (r : Addr) (H' : Hp), H r = none → Same H H' → H' r = some (.tup [.int (totTop js : Int), .int (totBot js : Int)]) → Q (.ref r) H'
theorem share_at {K : PySem.W.Frag} {H : Hp} {xs : List V} {js : List Job} (h : DpAll K H xs (js.map partJ)) {i : Nat} {x : V} (e : xs[i]? = some x) :
    ∃ (j : Job) (q : Addr), js[i]? = some j ∧ x = .ref q ∧ SqT K H q [.int (j.2.1 : Int), .int (j.2.2 : Int)] := by
  obtain ⟨d, hd, hv⟩ := h.get e
  rw [List.getElem?_map] at hd
  cases ej : js[i]? with
  | none => rw [ej] at hd; cases hd
  | some j =>
    rw [ej] at hd
    obtain rfl : partJ j = d := Option.some.inj hd
    obtain ⟨q, ys, rfl, hS, hA⟩ := hv.tuple
    obtain ⟨v, w, rfl, hv1, hv2⟩ := hA.two
    cases hv1; cases hv2
    exact ⟨j, q, rfl, rfl, hS⟩
def spWorld (K : PySem.W.Frag) : Sp := fun vs H Q _ => ∃ (b l : Addr) (ms : List Nat) (m : Nat), vs = [.ref b, .ref l, .int m] ∧ Bag H b ∧ l ≠ b ∧ H l = some (.lst (ms.map fun m : Nat => V.int (m : Int))) ∧ 0 < ms.length ∧ ms.length ≤ 1000 ∧ (∀ m ∈ ms, 1 ≤ m ∧ m ≤ 16) ∧ 0 < m ∧ m ≤ 6 ∧
  ∀ (n : Nat) (js : List Job) (r p : Addr) (xs : List V) (H' : Hp), 1 ≤ n → n ≤ 6 → Good 16 js → 0 < js.length → js.length ≤ m → (∀ j ∈ js, ∃ m ∈ ms, j.2.2 ≤ m) → H r = none → H p = none → But b H H' → Bag H' b → H' r = some (.tup [.int (n : Int), .ref p]) → H' p = some (.lst xs) → DpAll K (hid b H') xs (js.map jobD) → Q (.ref r) H'
/-- a work kept at an address, its share at another -/
def Wk (H : Hp) (b : Addr) (t : Addr × Addr × Job) : Prop := t.1 ≠ b ∧ H t.1 = some (.tup [.str t.2.2.1, .ref t.2.1]) ∧ t.2.1 ≠ b ∧ H t.2.1 = some (.tup [.int (t.2.2.2.1 : Int), .int (t.2.2.2.2 : Int)])
/-- tuples off b stay -/
def TupB (b : Addr) (H H' : Hp) : Prop := ∀ a xs, a ≠ b → H a = some (.tup xs) → H' a = some (.tup xs)
theorem Wk.step {H H' : Hp} {b : Addr} {t : Addr × Addr × Job} (h : Wk H b t) (s : TupB b H H') : Wk H' b t := ⟨h.1, s _ _ h.1 h.2.1, h.2.2.1, s _ _ h.2.2.1 h.2.2.2⟩
theorem TupB.of {b : Addr} {H H' : Hp} (s : But b H H') : TupB b H H' := fun _ _ n h => s _ _ n h
theorem TupB.trans {b : Addr} {H H' H'' : Hp} (s : TupB b H H') (t : TupB b H' H'') : TupB b H H'' := fun a xs n h => t a xs n (s a xs n h)
theorem TupB.lst {b c : Addr} {H : Hp} {xs : List V} {o : HO} (h : H c = some (.lst xs)) : TupB b H (upd H c o) := fun a ys _ e => by rw [upd_ne (fun z => by rw [z, h] at e; cases e)]; exact e
theorem TupB.new {b c : Addr} {H : Hp} {o : HO} (h : H c = none) : TupB b H (upd H c o) := fun a ys _ e => same_new h _ _ e
theorem Wk.dp {K : PySem.W.Frag} {H : Hp} {b : Addr} {t : Addr × Addr × Job} (h : Wk H b t) : Dp K (hid b H) (.ref t.1) (jobD t.2.2) :=
  .tup (SqT.of ((hid_ne h.1).trans h.2.1)) (.cons (.str _) (.cons (.tup (SqT.of ((hid_ne h.2.2.1).trans h.2.2.2)) (.cons (.int _) (.cons (.int _) .nil))) .nil))
theorem Wk.all {K : PySem.W.Frag} {H : Hp} {b : Addr} : ∀ {ws : List (Addr × Addr × Job)}, (∀ t ∈ ws, Wk H b t) → DpAll K (hid b H) (ws.map fun t => V.ref t.1) ((ws.map fun t => t.2.2).map jobD)
  | [], _ => .nil
  | t :: ws, h => .cons (h t List.mem_cons_self).dp (Wk.all fun x hx => h x (List.mem_cons_of_mem _ hx))
theorem Wk.parts {K : PySem.W.Frag} {H : Hp} {b : Addr} : ∀ {ws : List (Addr × Addr × Job)}, (∀ t ∈ ws, Wk H b t) → DpAll K H (ws.map fun t => V.ref t.2.1) ((ws.map fun t => t.2.2).map partJ)
  | [], _ => .nil
  | t :: ws, h => .cons (.tup (SqT.of (h t List.mem_cons_self).2.2.2) (.cons (.int _) (.cons (.int _) .nil))) (Wk.parts fun x hx => h x (List.mem_cons_of_mem _ hx))
theorem erase_perm {α : Type} : ∀ {l : List α} {k : Nat} {x : α}, l[k]? = some x → (x :: l.eraseIdx k).Perm l
  | [], _, _, h => by cases h
  | y :: l, 0, x, h => by cases h; exact .refl _
  | y :: l, k + 1, x, h => (List.Perm.swap y x _).trans ((erase_perm (l := l) (k := k) h).cons y)
def sixTags : List Str := ["ann", "b", "cat", "dot", "eve", "f"]
theorem six_nd : sixTags.Nodup := by decide +kernel
theorem six_tag : ∀ t ∈ sixTags, IsTag t := by
  have h : ∀ t ∈ sixTags, (decide (1 ≤ t.length) && (decide (t.length ≤ 8) && t.cps.toList.all fun c => decide (97 ≤ c) && decide (c ≤ 122))) = true := by decide +kernel
  intro t ht
  have := h t ht
  rw [Bool.and_eq_true, Bool.and_eq_true, decide_eq_true_iff, decide_eq_true_iff] at this
  obtain ⟨h1, h2, h3⟩ := this
  exact ⟨h1, h2, fun c hc => by
    have := List.all_eq_true.mp h3 c hc
    rw [Bool.and_eq_true, decide_eq_true_iff, decide_eq_true_iff] at this
    exact this⟩
/-- the works found and the tags left -/
structure Fnd (H : Hp) (b tl wl : Addr) (ms : List Nat) (ts : List Str) (ws : List (Addr × Addr × Job)) : Prop where
  tat : H tl = some (.lst (ts.map V.str))
  wat : H wl = some (.lst (ws.map fun t => V.ref t.1))
  wk : ∀ t ∈ ws, Wk H b t
  nd : (ts ++ ws.map fun t => t.2.2.1).Nodup
  tag : ∀ t ∈ ts ++ ws.map (fun t => t.2.2.1), IsTag t
  part : ∀ t ∈ ws, GoodPart 16 t.2.2.2.1 t.2.2.2.2 ∧ ∃ m ∈ ms, t.2.2.2.2 ≤ m
theorem Fnd.good {H : Hp} {b tl wl : Addr} {ms : List Nat} {ts : List Str} {ws : List (Addr × Addr × Job)} (h : Fnd H b tl wl ms ts ws) : Good 16 (ws.map fun t => t.2.2) := by
  refine ⟨?_, fun j hj => ?_, fun j hj => ?_⟩
  · rw [List.map_map]; exact (List.nodup_append.mp h.nd).2.1
  · obtain ⟨t, ht, rfl⟩ := List.mem_map.mp hj
    exact h.tag _ (List.mem_append_right _ (List.mem_map.mpr ⟨t, ht, rfl⟩))
  · obtain ⟨t, ht, rfl⟩ := List.mem_map.mp hj
    exact (h.part t ht).1
theorem num_okB {n : Nat} (h : n ≤ 1000) : ((n : Nat) : Int).natAbs.log2 < 1920 := by
  show n.log2 < 1920
  by_cases z : n = 0
  · subst z; decide
  · exact Nat.lt_trans ((Nat.log2_lt z).mpr (show n < 2 ^ 10 by omega)) (by decide)
theorem seq_nat {k n : Nat} (h : k < n) : seqIndex? (k : Int) n = some k := by
  unfold seqIndex?
  have h1 : ¬ ((k : Int) < 0) := by omega
  rw [if_neg h1]
  have h2 : (decide ((0 : Int) ≤ (k : Int)) && decide ((k : Int) < (n : Int))) = true := by
    rw [decide_eq_true (show (0 : Int) ≤ (k : Int) by omega), decide_eq_true (show (k : Int) < (n : Int) by omega)]; rfl
  show (if (decide ((0 : Int) ≤ (k : Int)) && decide ((k : Int) < (n : Int))) = true then some (k : Int).toNat else none) = some k
  rw [if_pos h2]; rfl
theorem erase_map {α β : Type} (f : α → β) : ∀ (l : List α) (k : Nat), (l.map f).eraseIdx k = (l.eraseIdx k).map f
  | [], _ => rfl
  | _ :: _, 0 => rfl
  | x :: l, k + 1 => by
    show f x :: (l.map f).eraseIdx k = f x :: (l.eraseIdx k).map f
    rw [erase_map f l k]
end Ts
namespace Ts
open PySem PySem.Spec PyProof.Rows L2 L2H LamX
/-! ## xs[k] read where xs[k] += e -/
def rGetL : V → V → Hp → VK → Prop := fun o i H Q => ∃ (p : Addr) (xs : List V) (k : Nat) (y : V), o = .ref p ∧ i = .int (k : Int) ∧ H p = some (.lst xs) ∧ xs[k]? = some y ∧ Q y H
theorem get_listP {X : Cx} : PGet X rGetL := by
  intro pins s σ H o i ov iv Q I r1 r2 h
  obtain ⟨p, xs, k, y, rfl, rfl, hp, hy, q⟩ := h
  cases r1
  obtain ⟨t, rfl⟩ := r2
  obtain ⟨its, r, pl, hz⟩ := I.list (SqL.of hp)
  obtain ⟨w, ew, rw'⟩ := r.get hy
  have hl := r.length
  have hn := line63
  have hk := (List.getElem?_eq_some_iff.mp hy).1
  exact wpAny_getItem_list pl.isList (by omega) (by omega) (by simpa using ew) ⟨y, H, I, rw', q⟩
/-! ## members of a tick -/
def ascB (many : Int) : List (Option Int) → Int → Bool
  | [], _ => true
  | o :: r, least => inRg o least (many - 1) && ascB many r (o.getD 0 + 1)
def membersB (many most : Int) : Option (List (Option Int)) → Bool
  | none => false
  | some os => decide ((os.length : Int) ≤ most) && ascB many os 0
theorem sqt_ty37 {K : PySem.W.Frag} {H : Hp} {a : Addr} {xs : List V} (h : SqT K H a xs) : TyX K H (.ref a) (.type "tuple") := by
  rcases h with (h | ⟨o, h⟩) | ⟨o, its, n, e, c, _⟩
  · exact .base (.tup h)
  · exact .fTuple h
  · exact .kTuple e c
/-- a thing that is perhaps a tuple -/
def ThingS (K : PySem.W.Frag) (H : Hp) (v : V) : Option (List (Option Int)) → Prop
  | some os => ∃ (p : Addr) (xs : List V), v = .ref p ∧ SqT K H p xs ∧ xs.length = os.length ∧ ∀ (i : Nat) (x : V) (o : Option Int), xs[i]? = some x → os[i]? = some o → KindV K H x o
  | none => ∃ T, T ∈ ["int", "bool", "str", "NoneType", "list", "dict"] ∧ TyX K H v (.type T)
theorem ThingAt.s {K : PySem.W.Frag} {H : Hp} {v : V} {t : Option (List (Option Int))} (h : ThingAt K H v t) : ThingS K H v t := by
  cases t with
  | none => exact h
  | some os => obtain ⟨p, xs, h1, h2, h3, h4⟩ := h; exact ⟨p, xs, h1, SqT.of h2, h3, h4⟩
theorem ThingS.mono {K : PySem.W.Frag} {H H' : Hp} {v : V} {t : Option (List (Option Int))} (h : ThingS K H v t) (s : Same H H') : ThingS K H' v t := by
  cases t with
  | none => obtain ⟨T, h1, h2⟩ := h; exact ⟨T, h1, TyX.mono h2 s⟩
  | some os => obtain ⟨p, xs, h1, h2, h3, h4⟩ := h; exact ⟨p, xs, h1, sameT s h2, h3, fun i x o a b => (h4 i x o a b).mono s⟩
def spMembers (K : PySem.W.Frag) : Sp := fun vs H Q _ => ∃ (v : V) (many most : Int) (t : Option (List (Option Int))), vs = [v, .int many, .int most] ∧ ThingS K H v t ∧ Q (.bl (membersB many most t)) H
/-! ## counts -/
/-! ## ticks had -/
def keptM (js : List Job) (t : Int) (ns : List Int) : List Bool := List.zipWith (fun j a => keptZ (j.2.1 : Int) (j.2.2 : Int) t a) js ns
def keptAll (js : List Job) (t : Int) (ns : List Int) : Bool := (keptM js t ns).all id
theorem keptM_at {js : List Job} {t : Int} {ns : List Int} {i : Nat} {j : Job} {a : Int} (hj : js[i]? = some j) (ha : ns[i]? = some a) : (keptM js t ns).take (i + 1) = (keptM js t ns).take i ++ [keptZ (j.2.1 : Int) (j.2.2 : Int) t a] := by
  have e : (keptM js t ns)[i]? = some (keptZ (j.2.1 : Int) (j.2.2 : Int) t a) := by
    unfold keptM
    rw [List.getElem?_zipWith, hj, ha]
  rw [List.take_add_one, e]; rfl
theorem keptM_len {js : List Job} {t : Int} {ns : List Int} (h : ns.length = js.length) : (keptM js t ns).length = js.length := by
  unfold keptM
  rw [List.length_zipWith, h, Nat.min_self]
/-- what has been had: a list of counts, none too great -/
def spAreKept (K : PySem.W.Frag) : Sp := fun vs H Q _ => ∃ (a c : Addr) (xs : List V) (js : List Job) (t : Int) (ns : List Int), vs = [.ref a, .int t, .ref c] ∧ SqT K H a xs ∧ DpAll K H xs (sharesD js) ∧ SqL K H c (ns.map V.int) ∧ js.length ≤ 6 ∧ ns.length = js.length ∧ -(2 ^ 64) < t ∧ t < 2 ^ 64 ∧ (∀ n ∈ ns, -(2 ^ 64) < n ∧ n < 2 ^ 64) ∧
  ∀ H', Same H H' → Q (.bl (keptAll js t ns)) H'
end Ts
namespace Ts
open PySem PySem.Spec PyProof.Rows L2 L2H LamX
/-! ## zip of a tuple and a list -/
def ItzM (K : PySem.W.Frag) (a b : Addr) : It :=
  ⟨fun i H => ∃ xs ys x y, (SqT K H a xs ∧ xs[i]? = some x) ∧ SqL K H b ys ∧ ys[i]? = some y,
   fun i H v H' => ∃ T x y, (v = V.ref T ∧ H T = none) ∧ (H' = upd H T (.tup [x, y])) ∧ (∀ xs, SqT K H a xs → xs[i]? = some x) ∧ (∀ ys, SqL K H b ys → ys[i]? = some y),
   fun i H => ∃ xs ys, SqT K H a xs ∧ SqL K H b ys ∧ i = min xs.length ys.length⟩
def ZipSt (z TI TO i1 i2 a b : Addr) : Nat → Heap → Prop := fun i h => IsZip h z TI TO .none ∧ IsTupOf2 h TI (.ref i1) (.ref i2) ∧ (∃ x y, IsTupOf2 h TO x y) ∧ h.IsTupleIter i1 a i ∧ h.IsListIter i2 b i
theorem five {z TI TO i1 i2 c : Addr} (h : c ∈ [z, TI, TO, i1, i2]) : c = z ∨ c = TI ∨ c = TO ∨ c = i1 ∨ c = i2 := by simpa using h
theorem ZipSt.lives {z TI TO i1 i2 a b : Addr} {i : Nat} {h : Heap} (st : ZipSt z TI TO i1 i2 a b i h) : ∀ c ∈ [z, TI, TO, i1, i2], ∃ o, h.get? c = some o ∧ ∀ v, o.data ≠ .cell v := by
  obtain ⟨g1, g2, ⟨x, y, g3⟩, ⟨o1, e1, _, d1⟩, ⟨o2, e2, _, d2⟩⟩ := st
  intro c hc
  rcases five hc with rfl | rfl | rfl | rfl | rfl
  · exact ⟨_, g1, fun _ => nofun⟩
  · exact ⟨_, g2, fun _ => nofun⟩
  · exact ⟨_, g3, fun _ => nofun⟩
  · exact ⟨o1, e1, fun v w => by rw [d1] at w; cases w⟩
  · exact ⟨o2, e2, fun v w => by rw [d2] at w; cases w⟩
theorem turn_zipM {P : Program} {w : World} {K : PySem.W.Frag} {elts : List Expr} {kk : Nat} {tpos : Pos} {a b z TI TO i1 i2 : Addr} (S : ZipSep2 z TI TO i1 i2 [i1, a] [i2, b]) (h1 : a ≠ i1) (h2 : b ≠ i2) :
    Turn P w K (.Tuple elts kk tpos) (ItzM K a b) [z, TI, TO, i1, i2] z (ZipSt z TI TO i1 i2 a b) where
  mem := List.mem_cons_self
  obj := fun _ _ st => st.lives
  keep := fun i h h' st k => by
    obtain ⟨g1, g2, ⟨x, y, g3⟩, g4, g5⟩ := st
    exact ⟨k z (by simp) _ g1, k TI (by simp) _ g2, ⟨x, y, k TO (by simp) _ g3⟩, g4.at fun o e => k i1 (by simp) o e, g5.at fun o e => k i2 (by simp) o e⟩
  item := by
    intro X hP hw hK hc i pins s σ H E I hf st hg
    subst hP hw hK
    obtain ⟨xs, ys, x, y, ⟨qx, ex⟩, qy, ey⟩ := hg
    have live := st.lives
    obtain ⟨g1, g2, g3, g4, g5⟩ := st
    obtain ⟨its, rv, p, _⟩ := I.tuple qx
    obtain ⟨its2, rv2, p2, _⟩ := I.list qy
    obtain ⟨u, eu, ru⟩ := rv.get ex
    obtain ⟨u2, eu2, ru2⟩ := rv2.get ey
    have hd : X.A.in1.handled = none := I.ok.hd hc
    have G := GoesN.zip2 (prog := X.prog) (w := X.w) (elts := elts) (x1 := kk) (pos := tpos) S (Draws.tuple hd i1 a h1 its.toArray) (Draws.list hd i2 b h2 its2.toArray)
    have li : i < min its.toArray.size its2.toArray.size := by
      have m1 := (List.getElem?_eq_some_iff.mp eu).1
      have m2 := (List.getElem?_eq_some_iff.mp eu2).1
      simp only [List.size_toArray]; omega
    refine G.goes i s _ E li ⟨g1, g2, g3, ⟨g4, p⟩, g5, p2.isList⟩ fun v h' tk hv st2 hk _ => ?_
    obtain ⟨T, w1, w2, rfl, hT, e1, e2, tup⟩ := hv
    obtain rfl : u = w1 := by
      have : its.toArray[i]? = some u := by simpa using eu
      exact Option.some.inj (this.symm.trans e1)
    obtain rfl : u2 = w2 := by
      have : its2.toArray[i]? = some u2 := by simpa using eu2
      exact Option.some.inj (this.symm.trans e2)
    obtain ⟨k1, k2, k3, ⟨k4, _⟩, k5, _⟩ := st2
    have new : ObjOk X.prog X.w (upd H T (.tup [x, y])) h' T (.tup [x, y]) := ⟨by show 2 ≤ sizeLine; decide, [u, u2], .cons ru (.cons ru2 .nil), tup⟩
    have I1 : Inv X pins σ (upd H T (.tup [x, y])) { s with heap := h', toks := tk } := I.turnedNew (t' := tk) (ch := [z, TI, TO, i1, i2]) (fun c o hb q => hk c o (fun n => hb (by
      have : c = z ∨ c = TO ∨ c = i1 ∨ c = i2 := by simpa using n
      rcases this with rfl | rfl | rfl | rfl <;> simp)) q) hf hT new
    refine ⟨.ref T, _, I1, rfl, ⟨T, x, y, ⟨rfl, I.hok.fresh hT⟩, rfl, fun l hl => by rw [I.tuple_inj hl qx]; exact ex, fun l hl => by rw [I.list_inj hl qy]; exact ey⟩, ⟨k1, k2, k3, k4, k5⟩, fun c hc' => ?_⟩
    obtain ⟨o, lo, _⟩ := live c hc'
    rw [upd_ne (Nat.ne_of_lt (Nat.lt_of_lt_of_le (Heap.lt_size lo) hT))]
    exact (hf c hc').1
  done := by
    intro X hP hw hK hc i pins s σ H E I hf st hg
    subst hP hw hK
    obtain ⟨xs, ys, qx, qy, rfl⟩ := hg
    obtain ⟨g1, g2, g3, g4, g5⟩ := st
    obtain ⟨its, rv, p, _⟩ := I.tuple qx
    obtain ⟨its2, rv2, p2, _⟩ := I.list qy
    have hd : X.A.in1.handled = none := I.ok.hd hc
    have G := GoesN.zip2 (prog := X.prog) (w := X.w) (elts := elts) (x1 := kk) (pos := tpos) S (Draws.tuple hd i1 a h1 its.toArray) (Draws.list hd i2 b h2 its2.toArray)
    have em : min its.toArray.size its2.toArray.size = min xs.length ys.length := by rw [List.size_toArray, List.size_toArray, rv.length, rv2.length]
    refine G.stops s _ E ?_ fun h' tk hk _ => ?_
    · rw [em]; exact ⟨g1, g2, g3, ⟨g4, p⟩, g5, p2.isList⟩
    · exact I.turnedL (t' := tk) (ch := [z, TI, TO, i1, i2]) (fun c o hb q => hk c o (fun n => hb (by
        have : c = z ∨ c = TO ∨ c = i1 ∨ c = i2 := by simpa using n
        rcases this with rfl | rfl | rfl | rfl <;> simp)) q) hf
  self := fun _ _ _ _ _ st h => wpAny_pyIter_zip st.1 h
def iZipM (K : PySem.W.Frag) (ta : TA) : TI := fun σ H R => ta σ H fun vs H1 => ∃ a b xs ys, vs = [V.ref a, V.ref b] ∧ SqT K H1 a xs ∧ SqL K H1 b ys ∧ R (ItzM K a b) H1
theorem pi_zipM {X : Cx} {K : PySem.W.Frag} (hXK : X.K = K) {e1 e2 : Expr} {ta : TA} {p pos tpos : Pos} {elts : List Expr} {kk : Nat} (hg : Gl X "zip") (hm : X.mg "zip" = none) (ha : PA X [e1, e2] ta)
    (h1 : starEach [e1, e2] X.env = (false, eval e1 X.env) :: starEach [e2] X.env := by rfl)
    (h2 : (backTo pos (starEach [e2] X.env)).any (·.1) = false := by rfl) : PI X (.Tuple elts kk tpos) (.Call (.Name "zip" p) [e1, e2] [] pos) (iZipM K ta) := by
  subst hXK
  refine ⟨fun pins s σ H R I h => Call_ (ld_blt I hg hm PyProof.Rows.boot_zip (PyProof.Rows.callWith_type1 (thn (ha.run pos pins s σ H _ I h) fun us s1 ⟨vs, H1, I1, r1, a, b, xs, ys, ev, qx, qy, q⟩ => ?_) h1 h2))⟩
  subst ev
  obtain ⟨u1, u2, rfl, r, r2⟩ := vals2 r1
  obtain rfl : u1 = Value.ref a := r
  obtain rfl : u2 = Value.ref b := r2
  obtain ⟨its, rv, p1, _⟩ := I1.tuple qx
  obtain ⟨its2, rv2, p2, _⟩ := I1.list qy
  have la : a < s1.heap.objs.size := by obtain ⟨o, ho, _⟩ := id p1; exact Heap.lt_size ho
  have lb : b < s1.heap.objs.size := by obtain ⟨o, ho, _⟩ := id p2.isList; exact Heap.lt_size ho
  refine zip_begins2 (begins_tuple a its.toArray) (begins_list b its2.toArray) p1 p2.isList fun h' hz hTI hTO g1 g2 _ hk => wpAny_pyIter_zip hz ?_
  have I2 : Inv X pins σ H1 { s1 with heap := h' } := I1.kept (t' := s1.toks) hk
  refine ⟨s1.heap.objs.size + 4, [s1.heap.objs.size + 4, s1.heap.objs.size + 2, s1.heap.objs.size + 3, s1.heap.objs.size, s1.heap.objs.size + 1], _, _, H1, rfl, I2,
    turn_zipM (zip_sep2 (fun c hc => by rw [List.mem_singleton.mp hc]; exact la) (fun c hc => by rw [List.mem_singleton.mp hc]; exact lb)) (Nat.ne_of_lt la) (Nat.ne_of_lt (Nat.lt_succ_of_lt lb)), ⟨hz, hTI, ⟨_, _, hTO⟩, ⟨_, g1, rfl, rfl⟩, ⟨_, g2, rfl, rfl⟩⟩, fun c hc => ?_, q⟩
  have le : s1.heap.objs.size ≤ c := by
    rcases five hc with rfl | rfl | rfl | rfl | rfl
    · exact Nat.le_add_right _ _
    · exact Nat.le_add_right _ _
    · exact Nat.le_add_right _ _
    · exact Nat.le_refl _
    · exact Nat.le_add_right _ _
  exact I1.fpOk le (I1.hok.fresh le)
theorem walk_zipM {K : PySem.W.Frag} {a b : Addr} {xs ys : List V} {n : Nat} (hn : n = min xs.length ys.length) : Walk (ItzM K a b) n (fun H => SqT K H a xs ∧ SqL K H b ys) (YPair (fun i => xs[i]?) (fun i => ys[i]?)) where
  goes := fun i H hi g => ⟨xs, ys, xs[i], ys[i], ⟨g.1, List.getElem?_eq_getElem (by omega)⟩, g.2, List.getElem?_eq_getElem (by omega)⟩
  stops := fun H g => ⟨xs, ys, g.1, g.2, hn⟩
  yields := fun i H v H' hi g y => by
    obtain ⟨T, x, y, ⟨h1, h2⟩, h3, h4, h5⟩ := y
    exact ⟨T, x, y, h1, h2, h3, h4 xs g.1, h5 ys g.2⟩
/-! ## a certificate that tells the works of each tick -/
abbrev TabT := Option (List (Option (List (Option Int))))
def TabP (K : PySem.W.Frag) (H : Hp) (v : V) : TabT → Prop
  | some rs => ∃ (p : Addr) (xs : List V), v = .ref p ∧ SqT K H p xs ∧ xs.length = rs.length ∧ ∀ (i : Nat) (x : V) (r : Option (List (Option Int))), xs[i]? = some x → rs[i]? = some r → ThingS K H x r
  | none => ∃ T, T ∈ ["int", "bool", "str", "NoneType", "list", "dict"] ∧ TyX K H v (.type T)
theorem TabP.mono {K : PySem.W.Frag} {H H' : Hp} {v : V} {t : TabT} (h : TabP K H v t) (s : Same H H') : TabP K H' v t := by
  cases t with
  | none => obtain ⟨T, h1, h2⟩ := h; exact ⟨T, h1, TyX.mono h2 s⟩
  | some rs => obtain ⟨p, xs, h1, h2, h3, h4⟩ := h; exact ⟨p, xs, h1, sameT s h2, h3, fun i x o a b => (h4 i x o a b).mono s⟩
def inc1 (had : List Int) (k : Nat) : List Int := had.set k (had.getD k 0 + 1)
def incAll (had : List Int) : List (Option Int) → List Int
  | [] => had
  | o :: r => incAll (inc1 had (o.getD 0).toNat) r
def keepsGo (js : List Job) (cs : List Int) : List (Option (List (Option Int))) → Nat → List Int → Bool
  | [], _, _ => true
  | r :: rs, m, had => membersB (js.length : Int) (cs.getD m 0) r && (keptAll js ((m : Int) + 1) (incAll had (r.getD [])) && keepsGo js cs rs (m + 1) (incAll had (r.getD [])))
def keepsB (js : List Job) (cs : List Int) : TabT → Bool
  | none => false
  | some rs => decide (rs.length = cs.length) && keepsGo js cs rs 0 (List.replicate js.length 0)
theorem inc1_len {had : List Int} {k : Nat} : (inc1 had k).length = had.length := List.length_set
theorem incAll_len : ∀ (os : List (Option Int)) (had : List Int), (incAll had os).length = had.length
  | [], _ => rfl
  | _ :: r, _ => (incAll_len r _).trans inc1_len
theorem inc1_in {had : List Int} {k : Nat} {m : Int} (h : ∀ n ∈ had, 0 ≤ n ∧ n ≤ m) (hm : 0 ≤ m) : ∀ n ∈ inc1 had k, 0 ≤ n ∧ n ≤ m + 1 := fun n hn => by
  rcases List.mem_or_eq_of_mem_set hn with z | z
  · have := h n z; omega
  · have : 0 ≤ had.getD k 0 ∧ had.getD k 0 ≤ m := by
      rw [List.getD_eq_getElem?_getD]
      cases e : had[k]? with
      | none => exact ⟨Int.le_refl _, hm⟩
      | some y => exact h y (List.mem_of_getElem? e)
    omega
theorem incAll_in : ∀ (os : List (Option Int)) (had : List Int) (m : Int), 0 ≤ m → (∀ n ∈ had, 0 ≤ n ∧ n ≤ m) → ∀ n ∈ incAll had os, 0 ≤ n ∧ n ≤ m + (os.length : Int)
  | [], _, m, _, h, n, hn => by have := h n hn; exact ⟨this.1, by show n ≤ m + 0; omega⟩
  | _ :: r, had, m, hm, h, n, hn => by
    have := incAll_in r _ (m + 1) (by omega) (inc1_in h hm) n hn
    rw [List.length_cons]
    omega
theorem ascB_in {many : Int} : ∀ (os : List (Option Int)) (least : Int), ascB many os least = true → 0 ≤ least → ∀ (i : Nat) (o : Option Int), os[i]? = some o → ∃ j : Nat, o = some (j : Int) ∧ (j : Int) < many
  | [], _, _, _, i, o, h => by cases h
  | x :: r, least, hb, h0, i, o, h => by
    have hb' : (inRg x least (many - 1) && ascB many r (x.getD 0 + 1)) = true := hb
    rw [Bool.and_eq_true] at hb'
    obtain ⟨b1, b2⟩ := hb'
    cases x with
    | none => cases b1
    | some y =>
      have hy := of_decide_eq_true b1
      cases i with
      | zero =>
        cases h
        exact ⟨y.toNat, by rw [Int.toNat_of_nonneg (by omega)], by omega⟩
      | succ i => exact ascB_in r (y + 1) b2 (by omega) i o h
def spKeepsAll (K : PySem.W.Frag) : Sp := fun vs H Q _ => ∃ (a c : Addr) (v : V) (xs : List V) (js : List Job) (cs : List Int) (t : TabT), vs = [.ref a, .ref c, v] ∧ SqT K H a xs ∧ DpAll K H xs (sharesD js) ∧ SqT K H c (cs.map V.int) ∧ 0 < js.length ∧ js.length ≤ 6 ∧ cs.length ≤ 1000 ∧ (∀ n ∈ cs, n ≤ 1000) ∧ TabP K H v t ∧
  ∀ H', Same H H' → Q (.bl (keepsB js cs t)) H'
theorem rep_flat : ∀ n : Nat, (List.replicate n [V.int 0]).flatten = (List.replicate n (0 : Int)).map V.int
  | 0 => rfl
  | n + 1 => by rw [List.replicate_succ, List.flatten_cons, rep_flat n, List.replicate_succ]; rfl
/-! ## counts that are valid -/
end Ts
namespace Ts
open PySem PySem.Spec PyProof.Rows L2
theorem hu2 {A : Around} (h : A.units + 64 < cLine) : A.in1.in1.units < cLine := by show A.units + 1 + 1 < cLine; omega
/-! ## who is ahead -/
abbrev handsL (n : Nat) (js : List Job) : List Nat := List.replicate (spanN js) n
def crewRows (cs : List Nat) : List (List Int) := cs.map fun c => (membersN c).map fun m : Nat => (m : Int)
/-! ## what is asked -/
/-! ## rows -/
/-! ## the crews of a choice: only the first may be empty -/
end Ts
namespace Ts
open PySem PySem.Spec PyProof.Rows L2
/-! ## rounds later -/
/-! ## which rows there are -/
/-! ## lists in their order that have the same rows -/
/-! ## turned about, and one fewer -/
/-- a row among the rows -/
theorem row_at {K : PySem.W.Frag} {H : Hp} {rs : List V} {rows : List (List Int)} (h : DpAll K H rs (rows.map rowD)) {i : Nat} {x : V} (e : rs[i]? = some x) :
    ∃ (r : List Int) (a : Addr), rows[i]? = some r ∧ x = .ref a ∧ SqT K H a (r.map V.int) := by
  obtain ⟨d, hd, hv⟩ := h.get e
  rw [List.getElem?_map] at hd
  cases er : rows[i]? with
  | none => rw [er] at hd; cases hd
  | some r =>
    rw [er] at hd
    cases Option.some.inj hd
    obtain ⟨a, zs, rfl, h1, h2⟩ := hv.tuple
    cases h2.ints_eq
    exact ⟨r, a, rfl, rfl, h1⟩
theorem rows_off {K : PySem.W.Frag} {H : Hp} {b : Addr} {us : List V} (e : H b = some (.lst us)) : ∀ {rs : List V} {rows : List (List Int)}, DpAll K H rs (rows.map rowD) → DpAll K (hid b H) rs (rows.map rowD)
  | _, [], .nil => .nil
  | _, r :: rows, .cons h t => by
    obtain ⟨a, zs, rfl, h1, h2⟩ := h.tuple
    cases h2.ints_eq
    exact .cons (.tup (SqT.offL h1 e) (DpAll.ints _)) (rows_off e t)
end Ts
namespace Ts
open PySem PySem.Spec PyProof.Rows L2 L2H LamX
/-! ## a value that is a standing -/
/-! ## what refuses -/
def spCheckRoundX (K : PySem.W.Frag) (C CY : Addr) : Sp := fun vs H Q E => ∃ (a : Addr) (n : Nat) (js : List Job), vs = [.ref a] ∧ LotAt K C H a n js ∧ (spanN js ≤ 720 → Q .non H) ∧ (720 < spanN js → Raise1 CY "limit" (.int 720) H E)
/-! ## what is due -/
end Ts
namespace Ts
open PySem PySem.Spec PyProof.Rows L2
/-! ## the draws of the laws of standings, tables, rules .. -/
/-! ## the menus -/
/-! ## data of tuples and texts alone -/
theorem shaped_lst {ds : List PyData} (h : ∀ d ∈ ds, d.canLay0 = true ∧ d.depth ≤ 60) : SeqAt.shaped (.list ds) = true := by
  obtain ⟨h1, h2⟩ := lay_all h
  unfold SeqAt.shaped
  rw [show PyData.canLay0 (.list ds) = true from h1, decide_eq_true (show PyData.depth (.list ds) ≤ 64 by show PyData.depthAll ds + 1 ≤ 64; omega)]; rfl
theorem shaped_intL (l : List Int) : SeqAt.shaped (.list (l.map PyData.int)) = true := shaped_lst fun d hd => by
  obtain ⟨x, _, rfl⟩ := List.mem_map.mp hd
  exact ⟨rfl, Nat.zero_le _⟩
/-! ## so many rounds later -/
end Ts
namespace Ts
open PySem PySem.Spec PyProof.Rows L2
/-- a drawn lot, and the lot of the package that it makes -/
structure Own (K : PySem.W.Frag) (C : Addr) (H : Hp) (b p q x : Addr) (n : Nat) (js : List Job) : Prop where
  B : Bas H b
  e : H p = some (.tup [.int (n : Int), .ref q])
  d : Dp K (hid b H) (.ref q) (jobsD js)
  L : LotAt K C (hid b H) x n js
theorem Own.step {K : PySem.W.Frag} {C : Addr} {H H' : Hp} {b p q x : Addr} {n : Nat} {js : List Job} (o : Own K C H b p q x n js) (bt : But b H H') (B : Bas H' b) : Own K C H' b p q x n js := by
  have np : p ≠ b := by
    obtain ⟨y, z, u, e⟩ := o.B
    intro h
    have h2 := o.e
    rw [h, e] at h2
    cases h2
  exact ⟨B, bt _ _ np o.e, o.d.mono bt.hid, o.L.mono bt.hid⟩
theorem Own.lot {K : PySem.W.Frag} {C : Addr} {H : Hp} {b p q x : Addr} {n : Nat} {js : List Job} (o : Own K C H b p q x n js) : LotAt K C H x n js := o.L.mono hid_sub
end Ts
namespace Ts
open PySem PySem.Spec PyProof.Rows L2 L2H LamX
/-! ## data of which the text is sound -/
structure OkF (w e : Nat) (d : PyData) : Prop where
  f : Fine w e d
  ok : PyData.strOk d.shown = true
theorem OkF.mono {w w' e e' : Nat} {d : PyData} (h : OkF w e d) (h1 : w ≤ w') (h2 : e ≤ e') : OkF w' e' d := ⟨h.f.mono h1 h2, h.ok⟩
theorem okf_int {e : Nat} {i : Int} (h0 : -1 ≤ i) (h1 : i < 10 ^ 40) : OkF 140 e (.int i) := by
  by_cases z : i = -1
  · subst z
    exact ⟨⟨by decide +kernel, by decide +kernel, by show (if ((-1 : Int) == 0) = true then 0 else (-1 : Int).natAbs.log2 + 1) ≤ 140; decide +kernel, Nat.zero_le _, rfl⟩, by decide +kernel⟩
  · obtain ⟨n, rfl⟩ := Int.eq_ofNat_of_zero_le (show 0 ≤ i by omega)
    refine ⟨fine_int (by omega) h1, ?_⟩
    have e : (PyData.int ((n : Nat) : Int)).shown = numS n := rfl
    rw [e]
    exact plain_ok (plain_num n)
theorem ok_joinR {S : Str} (hS : PyData.strOk S = true) : ∀ ts : List Str, (∀ t ∈ ts, PyData.strOk t = true) → PyData.strOk (Str.join S ts) = true := fun ts h => by
  unfold PyData.strOk
  rw [← Array.all_toList]
  refine List.all_eq_true.mpr fun c hc => decide_eq_true ?_
  have hc' : c ∈ TL.tl (Str.join S ts) := hc
  rw [TL.tl_join] at hc'
  have sm : ∀ {t : Str}, PyData.strOk t = true → ∀ c ∈ TL.tl t, c < 0x110000 := fun ht c hc => strOk_all ht c hc
  rcases mem_joinL hc' with h2 | ⟨u, hu, h2⟩
  · exact sm hS c h2
  · obtain ⟨t, ht, rfl⟩ := List.mem_map.mp hu
    exact sm (h t ht) c h2
theorem shownAll_ok {w e : Nat} {ds : List PyData} (h : ∀ d ∈ ds, OkF w e d) : ∀ t ∈ PyData.shownAll ds, PyData.strOk t = true := fun t ht => by
  rw [shownAll_eq_map] at ht
  obtain ⟨d, hd, rfl⟩ := List.mem_map.mp ht
  exact (h d hd).ok
theorem okf_tup {w e : Nat} {ds : List PyData} (h : ∀ d ∈ ds, OkF w e d) : OkF ((w + 1) * ds.length) (e + 1) (.tuple ds) := by
  refine ⟨(fine_all fun d hd => (h d hd).f).tup, ?_⟩
  have e : (PyData.tuple ds).shown = tupleText (PyData.shownAll ds) := by simp only [PyData.shown]
  rw [e]
  unfold tupleText
  refine strOk_app (strOk_app (by decide +kernel) (ok_joinR (by decide +kernel) _ (shownAll_ok h))) ?_
  split <;> decide +kernel
theorem OkF.odd {K : PySem.W.Frag} {H : Hp} {v : V} {w e : Nat} {d : PyData} (f : OkF w e d) (h : Dp K H v d) (hw : w ≤ 300000) (he : e < 60) (hs : shortV (some d)) : OddV K H v (some d) d.shown := by
  obtain ⟨a, b, c, g⟩ := f.f.fits hw he
  exact OddV.of h a b c g f.ok hs
theorem okf_ints {l : List Int} (h : ∀ i ∈ l, -1 ≤ i ∧ i < 10 ^ 40) : ∀ d ∈ l.map PyData.int, OkF 140 0 d := fun d hd => by
  obtain ⟨i, hi, rfl⟩ := List.mem_map.mp hd
  exact okf_int (h i hi).1 (h i hi).2
theorem OddV.ints {K : PySem.W.Frag} {H : Hp} {q : Addr} {l : List Int} (h : SqT K H q (l.map V.int)) (hl : l.length ≤ 100) (hr : ∀ i ∈ l, -1 ≤ i ∧ i < 10 ^ 40) : OddV K H (.ref q) (some (rowD l)) (rowD l).shown :=
  (okf_tup (okf_ints hr)).odd (.tup h (.ints l)) (by rw [List.length_map]; omega) (by decide) (show (l.map PyData.int).length ≤ 100 by rw [List.length_map]; exact hl)
theorem inV_ints (m : Int) (ms : List Int) : inV (.int m) (ms.map V.int) = decide (m ∈ ms) := by
  unfold inV
  rw [Bool.eq_iff_iff, List.any_map]
  simp only [List.any_eq_true, Function.comp, eqV, beq_iff_eq, decide_eq_true_eq]
  constructor
  · rintro ⟨x, h, e⟩; rw [← e]; exact h
  · intro h; exact ⟨m, h, rfl⟩
/-! ## a row that may be odd, and the law's own look at it -/
/-! ## what is right comes back -/
section
variable {K : PySem.W.Frag} {C : Addr} {H : Hp} {v t u : V} {o : Option (Nat × List Job)} {q' r : Option PyData} {st : Str}
theorem dpa_int_eq {K : PySem.W.Frag} {H : Hp} : ∀ {xs : List V} {l : List Int}, DpAll K H xs (l.map PyData.int) → xs = l.map V.int
  | _, [], .nil => rfl
  | _, i :: l, .cons h t => by
    cases h.int_eq
    rw [dpa_int_eq t]; rfl
end
/-! ## one of two values, the rest once -/
end Ts
namespace Ts
open PySem PySem.Spec PyProof.Rows L2
/-! ## the law's own look at standings: near, more, the sets of hands -/
def plusR (r s : List Int) : List Int := (List.range r.length).map fun k => r.getD k 0 + (if ((k : Int) ∈ s) then 1 else 0)
def spPlusJ (K : PySem.W.Frag) : Sp := fun vs H Q _ => ∃ (a g : Addr) (r s : List Int), vs = [.ref a, .ref g] ∧ SqT K H a (r.map V.int) ∧ SqT K H g (s.map V.int) ∧ r.length ≤ 6 ∧
  ∀ (p : Addr) (H' : Hp), H p = none → Same H H' → H' p = some (.tup ((plusR r s).map V.int)) → Q (.ref p) H'
def subsL : Nat → List (List Int)
  | 0 => [[]]
  | n + 1 => subsL n ++ (subsL n).map (· ++ [(n : Int)])
def setsL (n m : Nat) : List (List Int) := (subsL n).filter fun s => decide (s.length ≤ m)
def spSetsJ (K : PySem.W.Frag) : Sp := fun vs H Q _ => ∃ (n m : Nat), vs = [.int (n : Int), .int (m : Int)] ∧ n ≤ 6 ∧ m ≤ 1000 ∧
  ∀ (p : Addr) (ys : List V) (rows2 : List (List Int)) (H' : Hp), SrtO.Srtd HT.lexLt rows2 → SrtO.Stb HT.lexLt rows2 (setsL n m) → H p = none → Same H H' → H' p = some (.lst ys) → DpAll K H' ys (rows2.map rowD) → Q (.ref p) H'
theorem subsL_len : ∀ n, (subsL n).length = 2 ^ n
  | 0 => rfl
  | n + 1 => by rw [subsL, List.length_append, List.length_map, subsL_len n, Nat.pow_succ]; omega
theorem subsL_each : ∀ n, ∀ s ∈ subsL n, s.length ≤ n
  | 0, s, h => by rw [List.mem_singleton.mp h]; exact Nat.le_refl _
  | n + 1, s, h => by
    rcases List.mem_append.mp h with h | h
    · exact Nat.le_succ_of_le (subsL_each n s h)
    · obtain ⟨u, hu, rfl⟩ := List.mem_map.mp h
      rw [List.length_append]
      exact Nat.succ_le_succ (subsL_each n u hu)
theorem subsL_head : ∀ n, ∃ w, subsL n = [] :: w ∧ ∀ s ∈ w, 1 ≤ s.length
  | 0 => ⟨[], rfl, fun s h => by cases h⟩
  | n + 1 => by
    obtain ⟨w, e, h⟩ := subsL_head n
    refine ⟨w ++ (subsL n).map (· ++ [(n : Int)]), by rw [subsL, e]; rfl, fun s hs => ?_⟩
    rcases List.mem_append.mp hs with z | z
    · exact h s z
    · obtain ⟨u, hu, rfl⟩ := List.mem_map.mp z
      rw [List.length_append]
      exact Nat.le_add_left _ _
theorem sets_tail (n m : Nat) : ∀ s ∈ (setsL n m).tail, 1 ≤ s.length := by
  obtain ⟨w, e, h⟩ := subsL_head n
  unfold setsL
  rw [e]
  have hf : ([] :: w).filter (fun s : List Int => decide (s.length ≤ m)) = [] :: w.filter (fun s : List Int => decide (s.length ≤ m)) := by simp
  rw [hf]
  exact fun s hs => h s (List.mem_filter.mp hs).1
/-! ## rows that lie as tuples of their own -/
inductive RowT (H : Hp) : List V → List (List Int) → Prop
  | nil : RowT H [] []
  | cons {a : Addr} {r : List Int} {ys : List V} {rows : List (List Int)} (h : H a = some (.tup (r.map V.int))) (t : RowT H ys rows) : RowT H (.ref a :: ys) (r :: rows)
theorem RowT.mono {H H' : Hp} {ys : List V} {rows : List (List Int)} (h : RowT H ys rows) (s : Same H H') : RowT H' ys rows := by
  induction h with
  | nil => exact .nil
  | cons a _ ih => exact .cons (s _ _ a) ih
theorem RowT.append {H : Hp} {ys zs : List V} {rows more : List (List Int)} (h : RowT H ys rows) (g : RowT H zs more) : RowT H (ys ++ zs) (rows ++ more) := by
  induction h with
  | nil => exact g
  | cons a _ ih => exact .cons a ih
theorem RowT.snoc {H : Hp} {ys : List V} {rows : List (List Int)} {a : Addr} {r : List Int} (h : RowT H ys rows) (g : H a = some (.tup (r.map V.int))) : RowT H (ys ++ [.ref a]) (rows ++ [r]) := h.append (.cons g .nil)
theorem RowT.length {H : Hp} {ys : List V} {rows : List (List Int)} (h : RowT H ys rows) : ys.length = rows.length := by
  induction h with
  | nil => rfl
  | cons a _ ih => rw [List.length_cons, List.length_cons, ih]
theorem RowT.get {H : Hp} {ys : List V} {rows : List (List Int)} (h : RowT H ys rows) : ∀ {i : Nat} {y : V}, ys[i]? = some y → ∃ (a : Addr) (r : List Int), y = .ref a ∧ rows[i]? = some r ∧ H a = some (.tup (r.map V.int)) := by
  induction h with
  | nil => intro i y e; simp at e
  | cons a _ ih =>
    intro i y e
    cases i with
    | zero => cases e; exact ⟨_, _, rfl, rfl, a⟩
    | succ i => exact ih (by simpa using e)
theorem RowT.dp {K : PySem.W.Frag} {H : Hp} {ys : List V} {rows : List (List Int)} (h : RowT H ys rows) : DpAll K H ys (rows.map rowD) := by
  induction h with
  | nil => exact .nil
  | cons a _ ih => exact .cons (.tup (SqT.of a) (.ints _)) ih
/-! ## every standing at a moment -/
end Ts
namespace Ts
open PySem PySem.Spec PyProof.Rows L2
/-! ## the law's own living standings, as dicts with the rows as keys -/
def keyR (r : List Int) : List L2.Key := r.map Sum.inl
def rowsK (rows : List (List Int)) : List (List L2.Key × V) := rows.map fun r => (keyR r, .bl true)
/-- what lives k ticks before the end of a round, by the law's own walk -/
def livR (js : List Job) (sets : List (List Int)) : Nat → List (List Int)
  | 0 => rowsR js (spanN js : Int)
  | k + 1 => (rowsR js ((spanN js : Int) - ((k + 1 : Nat) : Int))).filter fun r => sets.any fun s => decide (plusR r s ∈ livR js sets k)
/-- from the first moment of the round -/
def livT (js : List Job) (sets : List (List Int)) : List (List (List Int)) := (List.range (spanN js + 1)).map fun m => livR js sets (spanN js - m)
def livJ (js : List Job) (sets : List (List Int)) : List (List (List Int)) := if livR js sets (spanN js) = [] then List.replicate (spanN js + 1) [] else livT js sets
/-- the dict at a holds the rows -/
def LivAt (H : Hp) (v : V) (rows : List (List Int)) : Prop := ∃ a, v = .ref a ∧ H a = some (.dT (rowsK rows))
inductive LivAll (H : Hp) : List V → List (List (List Int)) → Prop
  | nil : LivAll H [] []
  | cons {v : V} {rows : List (List Int)} {vs : List V} {rs : List (List (List Int))} (h : LivAt H v rows) (t : LivAll H vs rs) : LivAll H (v :: vs) (rows :: rs)
theorem LivAll.mono {H H' : Hp} {vs : List V} {rs : List (List (List Int))} (h : LivAll H vs rs) (s : Same H H') : LivAll H' vs rs := by
  induction h with
  | nil => exact .nil
  | cons a _ ih => obtain ⟨x, e, g⟩ := a; exact .cons ⟨x, e, s _ _ g⟩ ih
/-- pairs (row, True) of a list -/
inductive PairT (H : Hp) : List Addr → List (List L2.Key × Addr × V) → List (List Int) → Prop
  | nil : PairT H [] [] []
  | cons {p a : Addr} {r : List Int} {ps : List Addr} {qs : List (List L2.Key × Addr × V)} {rows : List (List Int)} (h : H p = some (.tup [.ref a, .bl true])) (g : H a = some (.tup (r.map V.int))) (t : PairT H ps qs rows) : PairT H (p :: ps) ((keyR r, a, .bl true) :: qs) (r :: rows)
theorem PairT.mono {H H' : Hp} {ps : List Addr} {qs : List (List L2.Key × Addr × V)} {rows : List (List Int)} (h : PairT H ps qs rows) (s : Same H H') : PairT H' ps qs rows := by
  induction h with
  | nil => exact .nil
  | cons a b _ ih => exact .cons (s _ _ a) (s _ _ b) ih
theorem PairT.snoc {H : Hp} {ps : List Addr} {qs : List (List L2.Key × Addr × V)} {rows : List (List Int)} {p a : Addr} {r : List Int} (h : PairT H ps qs rows) (e : H p = some (.tup [.ref a, .bl true])) (g : H a = some (.tup (r.map V.int))) :
    PairT H (ps ++ [p]) (qs ++ [(keyR r, a, .bl true)]) (rows ++ [r]) := by
  induction h with
  | nil => exact .cons e g .nil
  | cons a b _ ih => exact .cons a b ih
/-- which rows live k ticks before the end, row by row -/
def goB (js : List Job) (sets : List (List Int)) (k : Nat) (r : List Int) : Bool := sets.any fun s => decide (plusR r s ∈ livR js sets k)
theorem livR_succ (js : List Job) (sets : List (List Int)) (k : Nat) : livR js sets (k + 1) = (rowsR js ((spanN js : Int) - ((k + 1 : Nat) : Int))).filter (goB js sets k) := rfl
theorem shaped_rowsL (rows : List (List Int)) : SeqAt.shaped (.list (rows.map rowD)) = true := shaped_rows rows
theorem eqv_rowsL (rows : List (List Int)) : (PyData.list (rows.map rowD)).eqv (.list []) = rows.isEmpty := by cases rows <;> rfl
theorem LivAll.length {H : Hp} {vs : List V} {rs : List (List (List Int))} (h : LivAll H vs rs) : vs.length = rs.length := by
  induction h with
  | nil => rfl
  | cons a _ ih => rw [List.length_cons, List.length_cons, ih]
theorem LivAll.snoc {H : Hp} {vs : List V} {rs : List (List (List Int))} {v : V} {rows : List (List Int)} (h : LivAll H vs rs) (g : LivAt H v rows) : LivAll H (vs ++ [v]) (rs ++ [rows]) := by
  induction h with
  | nil => exact .cons g .nil
  | cons a _ ih => exact .cons a ih
end Ts
namespace Ts
open PySem PySem.Spec PyProof.Rows L2
/-! ## a tuple once: itself -/
theorem tup_once (l : Addr) (items : Array Value) (n : Nat) (dd : Option Addr) (sl : Array (Option Value)) (u : Tok) :
    Meets (Builtin.«tuple.__mul__» ⟨[.ref l, .int 1 u], []⟩) (fun _ R s => s.heap.get? l = some { cls := .type "tuple", dict := dd, data := .seq items n, slots := sl } ∧ R (.ok (.ret (Value.ref l))) s) :=
  .of_wp fun prog w A R s h => by
    obtain ⟨hp, g, d, tk, os⟩ := s
    obtain ⟨hl, h⟩ := h
    have f1 := AutoSeq1.idx_int
    have c0 : (decide ((1 : Int) < -(2 ^ 63)) || decide ((1 : Int) ≥ 2 ^ 63)) = false := by decide
    have c1 : (items.isEmpty || (1 : Int) == 1) = true := by simp
    wp_walk using wpAny_loadPart' hl
    exact ⟨_, rfl, h⟩
/-- a tuple so many times, one at least -/
def rRepU (K : PySem.W.Frag) : R2 := fun x y H Q => ∃ (l : Addr) (k : Int) (xs : List V), x = .ref l ∧ y = .int k ∧ SqT K H l xs ∧ xs ≠ [] ∧ 1 ≤ k ∧ k ≤ 1000 ∧ xs.length ≤ 1000 ∧ (k = 1 → Q (.ref l) H) ∧ (2 ≤ k → ∀ p, H p = none → Q (.ref p) (upd H p (.tup (List.replicate k.toNat xs).flatten)))
theorem op_repU {X : Cx} : OpR X (binaryOp .Mult) (rRepU X.K) := by
  intro pins s σ H x y v u Q I rx ry h
  obtain ⟨l, k, xs, rfl, rfl, hT, hne, h1, h2, hz, qa, qb⟩ := h
  by_cases c : k = 1
  · subst c
    cases rx
    obtain ⟨t, rfl⟩ := ry
    obtain ⟨its, r, ⟨⟨cls, dd, data, sl⟩, ho, hc, n, hd⟩, hs⟩ := I.tuple hT
    simp only at hc hd
    subst hc hd
    exact wpAny_binaryOp_repeat_ref (T := "tuple") (U := "int") (by decide) ⟨_, ho, rfl⟩ (fun s' => typeIs_int s' 1 t) noFill_tuple_mul F.fills_int_mul F.slot_int_rmul repeat_tuple F.slot_int_index.lookup
      (call_meets F.slot_int_rmul (typeIs_int s 1 t) F.entry_int_rmul (F.args_int_rmul_2 _ _) (int_rmul_tuple 1 t l its.toArray n dd sl)
        ⟨ho, rfl, ⟨_, ho, rfl⟩, call_meets F.slot_tuple_mul ⟨_, ho, rfl⟩ F.entry_tuple_mul (F.args_tuple_mul_2 _ _) (tup_once l its.toArray n dd sl t) ⟨ho, .ref l, H, I, rfl, qa rfl⟩⟩)
  · exact op_repT pins s σ H (.ref l) (.int k) v u Q I rx ry ⟨l, k, xs, rfl, rfl, hT, hne, by omega, h2, hz, qb (by omega)⟩
end Ts
namespace Ts
open PySem PySem.Spec PyProof.Rows L2
/-! ## sorted(t), t a tuple of alike data -/
/-- (v,) * k: so many times the same -/
def rRep1 (K : PySem.W.Frag) : R2 := fun x y H Q => ∃ (l : Addr) (k : Nat) (v : V), x = .ref l ∧ y = .int (k : Int) ∧ SqT K H l [v] ∧ 1 ≤ k ∧ k ≤ 1000 ∧ ∀ p H', Same H H' → SqT K H' p (List.replicate k v) → Q (.ref p) H'
theorem op_rep1 {X : Cx} {K : PySem.W.Frag} (hK : X.K = K) : OpR X (binaryOp .Mult) (rRep1 K) := by
  subst hK
  intro pins s σ H x y v u Q I rx ry h
  obtain ⟨l, k, z, rfl, rfl, hT, h1, h2, q⟩ := h
  refine op_repU pins s σ H (.ref l) (.int (k : Int)) v u Q I rx ry ⟨l, (k : Int), [z], rfl, rfl, hT, (fun z => by cases z), by omega, by omega, by show 1 ≤ 1000; decide, fun e => q l H (fun _ _ h => h) ?_, fun _ p hp => q p _ (same_new hp) (SqT.of ?_)⟩
  · have : k = 1 := by omega
    subst this
    exact hT
  · rw [upd_same, Int.toNat_natCast, List.flatten_replicate_singleton]
end Ts
namespace Ts
open PySem PySem.Spec PyProof.Rows L2 L2H LamX
/-! ## zip of a list and a tuple -/
def ItzN (K : PySem.W.Frag) (a b : Addr) : It :=
  ⟨fun i H => ∃ xs ys x y, (SqL K H a xs ∧ xs[i]? = some x) ∧ SqT K H b ys ∧ ys[i]? = some y,
   fun i H v H' => ∃ T x y, (v = V.ref T ∧ H T = none) ∧ (H' = upd H T (.tup [x, y])) ∧ (∀ xs, SqL K H a xs → xs[i]? = some x) ∧ (∀ ys, SqT K H b ys → ys[i]? = some y),
   fun i H => ∃ xs ys, SqL K H a xs ∧ SqT K H b ys ∧ i = min xs.length ys.length⟩
def ZipStN (z TI TO i1 i2 a b : Addr) : Nat → Heap → Prop := fun i h => IsZip h z TI TO .none ∧ IsTupOf2 h TI (.ref i1) (.ref i2) ∧ (∃ x y, IsTupOf2 h TO x y) ∧ h.IsListIter i1 a i ∧ h.IsTupleIter i2 b i
theorem ZipStN.lives {z TI TO i1 i2 a b : Addr} {i : Nat} {h : Heap} (st : ZipStN z TI TO i1 i2 a b i h) : ∀ c ∈ [z, TI, TO, i1, i2], ∃ o, h.get? c = some o ∧ ∀ v, o.data ≠ .cell v := by
  obtain ⟨g1, g2, ⟨x, y, g3⟩, ⟨o1, e1, _, d1⟩, ⟨o2, e2, _, d2⟩⟩ := st
  intro c hc
  rcases five hc with rfl | rfl | rfl | rfl | rfl
  · exact ⟨_, g1, fun _ => nofun⟩
  · exact ⟨_, g2, fun _ => nofun⟩
  · exact ⟨_, g3, fun _ => nofun⟩
  · exact ⟨o1, e1, fun v w => by rw [d1] at w; cases w⟩
  · exact ⟨o2, e2, fun v w => by rw [d2] at w; cases w⟩
theorem turn_zipN {P : Program} {w : World} {K : PySem.W.Frag} {elts : List Expr} {kk : Nat} {tpos : Pos} {a b z TI TO i1 i2 : Addr} (S : ZipSep2 z TI TO i1 i2 [i1, a] [i2, b]) (h1 : a ≠ i1) (h2 : b ≠ i2) :
    Turn P w K (.Tuple elts kk tpos) (ItzN K a b) [z, TI, TO, i1, i2] z (ZipStN z TI TO i1 i2 a b) where
  mem := List.mem_cons_self
  obj := fun _ _ st => st.lives
  keep := fun i h h' st k => by
    obtain ⟨g1, g2, ⟨x, y, g3⟩, g4, g5⟩ := st
    exact ⟨k z (by simp) _ g1, k TI (by simp) _ g2, ⟨x, y, k TO (by simp) _ g3⟩, g4.at fun o e => k i1 (by simp) o e, g5.at fun o e => k i2 (by simp) o e⟩
  item := by
    intro X hP hw hK hc i pins s σ H E I hf st hg
    subst hP hw hK
    obtain ⟨xs, ys, x, y, ⟨qx, ex⟩, qy, ey⟩ := hg
    have live := st.lives
    obtain ⟨g1, g2, g3, g4, g5⟩ := st
    obtain ⟨its, rv, p, _⟩ := I.list qx
    obtain ⟨its2, rv2, p2, _⟩ := I.tuple qy
    obtain ⟨u, eu, ru⟩ := rv.get ex
    obtain ⟨u2, eu2, ru2⟩ := rv2.get ey
    have hd : X.A.in1.handled = none := I.ok.hd hc
    have G := GoesN.zip2 (prog := X.prog) (w := X.w) (elts := elts) (x1 := kk) (pos := tpos) S (Draws.list hd i1 a h1 its.toArray) (Draws.tuple hd i2 b h2 its2.toArray)
    have li : i < min its.toArray.size its2.toArray.size := by
      have m1 := (List.getElem?_eq_some_iff.mp eu).1
      have m2 := (List.getElem?_eq_some_iff.mp eu2).1
      simp only [List.size_toArray]; omega
    refine G.goes i s _ E li ⟨g1, g2, g3, ⟨g4, p.isList⟩, g5, p2⟩ fun v h' tk hv st2 hk _ => ?_
    obtain ⟨T, w1, w2, rfl, hT, e1, e2, tup⟩ := hv
    obtain rfl : u = w1 := by
      have : its.toArray[i]? = some u := by simpa using eu
      exact Option.some.inj (this.symm.trans e1)
    obtain rfl : u2 = w2 := by
      have : its2.toArray[i]? = some u2 := by simpa using eu2
      exact Option.some.inj (this.symm.trans e2)
    obtain ⟨k1, k2, k3, ⟨k4, _⟩, k5, _⟩ := st2
    have new : ObjOk X.prog X.w (upd H T (.tup [x, y])) h' T (.tup [x, y]) := ⟨by show 2 ≤ sizeLine; decide, [u, u2], .cons ru (.cons ru2 .nil), tup⟩
    have I1 : Inv X pins σ (upd H T (.tup [x, y])) { s with heap := h', toks := tk } := I.turnedNew (t' := tk) (ch := [z, TI, TO, i1, i2]) (fun c o hb q => hk c o (fun n => hb (by
      have : c = z ∨ c = TO ∨ c = i1 ∨ c = i2 := by simpa using n
      rcases this with rfl | rfl | rfl | rfl <;> simp)) q) hf hT new
    refine ⟨.ref T, _, I1, rfl, ⟨T, x, y, ⟨rfl, I.hok.fresh hT⟩, rfl, fun l hl => by rw [I.list_inj hl qx]; exact ex, fun l hl => by rw [I.tuple_inj hl qy]; exact ey⟩, ⟨k1, k2, k3, k4, k5⟩, fun c hc' => ?_⟩
    obtain ⟨o, lo, _⟩ := live c hc'
    rw [upd_ne (Nat.ne_of_lt (Nat.lt_of_lt_of_le (Heap.lt_size lo) hT))]
    exact (hf c hc').1
  done := by
    intro X hP hw hK hc i pins s σ H E I hf st hg
    subst hP hw hK
    obtain ⟨xs, ys, qx, qy, rfl⟩ := hg
    obtain ⟨g1, g2, g3, g4, g5⟩ := st
    obtain ⟨its, rv, p, _⟩ := I.list qx
    obtain ⟨its2, rv2, p2, _⟩ := I.tuple qy
    have hd : X.A.in1.handled = none := I.ok.hd hc
    have G := GoesN.zip2 (prog := X.prog) (w := X.w) (elts := elts) (x1 := kk) (pos := tpos) S (Draws.list hd i1 a h1 its.toArray) (Draws.tuple hd i2 b h2 its2.toArray)
    have em : min its.toArray.size its2.toArray.size = min xs.length ys.length := by rw [List.size_toArray, List.size_toArray, rv.length, rv2.length]
    refine G.stops s _ E ?_ fun h' tk hk _ => ?_
    · rw [em]; exact ⟨g1, g2, g3, ⟨g4, p.isList⟩, g5, p2⟩
    · exact I.turnedL (t' := tk) (ch := [z, TI, TO, i1, i2]) (fun c o hb q => hk c o (fun n => hb (by
        have : c = z ∨ c = TO ∨ c = i1 ∨ c = i2 := by simpa using n
        rcases this with rfl | rfl | rfl | rfl <;> simp)) q) hf
  self := fun _ _ _ _ _ st h => wpAny_pyIter_zip st.1 h
def iZipN (K : PySem.W.Frag) (ta : TA) : TI := fun σ H R => ta σ H fun vs H1 => ∃ a b xs ys, vs = [V.ref a, V.ref b] ∧ SqL K H1 a xs ∧ SqT K H1 b ys ∧ R (ItzN K a b) H1
theorem pi_zipN {X : Cx} {K : PySem.W.Frag} (hXK : X.K = K) {e1 e2 : Expr} {ta : TA} {p pos tpos : Pos} {elts : List Expr} {kk : Nat} (hg : Gl X "zip") (hm : X.mg "zip" = none) (ha : PA X [e1, e2] ta)
    (h1 : starEach [e1, e2] X.env = (false, eval e1 X.env) :: starEach [e2] X.env := by rfl)
    (h2 : (backTo pos (starEach [e2] X.env)).any (·.1) = false := by rfl) : PI X (.Tuple elts kk tpos) (.Call (.Name "zip" p) [e1, e2] [] pos) (iZipN K ta) := by
  subst hXK
  refine ⟨fun pins s σ H R I h => Call_ (ld_blt I hg hm PyProof.Rows.boot_zip (PyProof.Rows.callWith_type1 (thn (ha.run pos pins s σ H _ I h) fun us s1 ⟨vs, H1, I1, r1, a, b, xs, ys, ev, qx, qy, q⟩ => ?_) h1 h2))⟩
  subst ev
  obtain ⟨u1, u2, rfl, r, r2⟩ := vals2 r1
  obtain rfl : u1 = Value.ref a := r
  obtain rfl : u2 = Value.ref b := r2
  obtain ⟨its, rv, p1, _⟩ := I1.list qx
  obtain ⟨its2, rv2, p2, _⟩ := I1.tuple qy
  have la : a < s1.heap.objs.size := by obtain ⟨o, ho, _⟩ := id p1.isList; exact Heap.lt_size ho
  have lb : b < s1.heap.objs.size := by obtain ⟨o, ho, _⟩ := id p2; exact Heap.lt_size ho
  refine zip_begins2 (begins_list a its.toArray) (begins_tuple b its2.toArray) p1.isList p2 fun h' hz hTI hTO g1 g2 _ hk => wpAny_pyIter_zip hz ?_
  have I2 : Inv X pins σ H1 { s1 with heap := h' } := I1.kept (t' := s1.toks) hk
  refine ⟨s1.heap.objs.size + 4, [s1.heap.objs.size + 4, s1.heap.objs.size + 2, s1.heap.objs.size + 3, s1.heap.objs.size, s1.heap.objs.size + 1], _, _, H1, rfl, I2,
    turn_zipN (zip_sep2 (fun c hc => by rw [List.mem_singleton.mp hc]; exact la) (fun c hc => by rw [List.mem_singleton.mp hc]; exact lb)) (Nat.ne_of_lt la) (Nat.ne_of_lt (Nat.lt_succ_of_lt lb)), ⟨hz, hTI, ⟨_, _, hTO⟩, ⟨_, g1, rfl, rfl⟩, ⟨_, g2, rfl, rfl⟩⟩, fun c hc => ?_, q⟩
  have le : s1.heap.objs.size ≤ c := by
    rcases five hc with rfl | rfl | rfl | rfl | rfl
    · exact Nat.le_add_right _ _
    · exact Nat.le_add_right _ _
    · exact Nat.le_add_right _ _
    · exact Nat.le_refl _
    · exact Nat.le_add_right _ _
  exact I1.fpOk le (I1.hok.fresh le)
theorem walk_zipN {K : PySem.W.Frag} {a b : Addr} {xs ys : List V} {n : Nat} (hn : n = min xs.length ys.length) : Walk (ItzN K a b) n (fun H => SqL K H a xs ∧ SqT K H b ys) (YPair (fun i => xs[i]?) (fun i => ys[i]?)) where
  goes := fun i H hi g => ⟨xs, ys, xs[i], ys[i], ⟨g.1, List.getElem?_eq_getElem (by omega)⟩, g.2, List.getElem?_eq_getElem (by omega)⟩
  stops := fun H g => ⟨xs, ys, g.1, g.2, hn⟩
  yields := fun i H v H' hi g y => by
    obtain ⟨T, x, y, ⟨h1, h2⟩, h3, h4, h5⟩ := y
    exact ⟨T, x, y, h1, h2, h3, h4 xs g.1, h5 ys g.2⟩
end Ts
namespace Ts
open PySem PySem.Spec PyProof.Rows L2 L2H LamX
/-! ## plans judged: what k70's law asks of its own defs -/
/-- whether all works are kept -/
def spKept70 (K : PySem.W.Frag) : Sp := fun vs H Q _ => ∃ (a h : Addr) (xs : List V) (js : List Job) (ns : List Int) (t : Int), vs = [.ref a, .ref h, .int t] ∧ SqL K H a xs ∧ DpAll K H xs (sharesD js) ∧ SqT K H h (ns.map V.int) ∧ (∀ j ∈ js, GoodPart 16 j.2.1 j.2.2) ∧ js.length ≤ 6 ∧ ns.length = js.length ∧ ∀ H', Same H H' → Q (.bl (keptAll js t ns)) H'
theorem sets_succ70 (n m : Nat) : setsL (n + 1) m = setsL n m ++ ((setsL n m).filter fun s => decide (s.length < m)).map (· ++ [(n : Int)]) := by
  unfold setsL
  rw [subsL, List.filter_append, List.filter_map, List.filter_filter]
  congr 2
  refine List.filter_congr fun s _ => ?_
  show decide ((s ++ [(n : Int)]).length ≤ m) = _
  rw [List.length_append]
  by_cases c : s.length < m
  · rw [decide_eq_true (show s.length + [(n : Int)].length ≤ m from c), decide_eq_true c, decide_eq_true (Nat.le_of_lt c)]; rfl
  · rw [decide_eq_false (show ¬ s.length + [(n : Int)].length ≤ m from fun z => c z), decide_eq_false c]; simp
/-- rows of ticks, each as the checker may take it -/
def spAnyRow70 (K : PySem.W.Frag) : Sp := fun vs H Q _ => ∃ (b a c : Addr) (m : Int) (xs : List V) (js : List Job) (cs : List Nat), vs = [.ref b, .int m, .ref a, .ref c] ∧ Bag H b ∧ SqL K (hid b H) a xs ∧ DpAll K (hid b H) xs (sharesD js) ∧ SqL K (hid b H) c (natV cs) ∧ (∀ j ∈ js, GoodPart 16 j.2.1 j.2.2) ∧ 0 < js.length ∧ js.length ≤ 6 ∧ cs.length ≤ 60 ∧ (∀ n ∈ cs, n ≤ 6) ∧
  ∀ (p : Addr) (us : List V) (rows : List (List Int)) (H' : Hp), But b H H' → Bag H' b → SqT K (hid b H') p us → DpAll K (hid b H') us (rows.map rowD) → rows.length ≤ cs.length → (∀ r ∈ rows, r ∈ setsL js.length 6) → (∀ c, cs[0]? = some c → js.length ≤ c → 0 < rows.length) → Q (.ref p) H'
/-- all works at once -/
def fullR70 (n : Nat) : List Int := (List.range n).map fun i : Nat => (i : Int)
theorem full_subs70 : ∀ n : Nat, fullR70 n ∈ subsL n
  | 0 => List.mem_singleton.mpr rfl
  | n + 1 => by
    rw [subsL]
    refine List.mem_append_right _ (List.mem_map.mpr ⟨fullR70 n, full_subs70 n, ?_⟩)
    unfold fullR70
    rw [List.range_succ, List.map_append]; rfl
theorem full_sets70 {n m : Nat} (h : n ≤ m) : fullR70 n ∈ setsL n m := by
  unfold setsL
  refine List.mem_filter.mpr ⟨full_subs70 n, decide_eq_true ?_⟩
  unfold fullR70
  rw [List.length_map, List.length_range]; exact h
theorem full_plus70 (n : Nat) : plusR (List.replicate n 0) (fullR70 n) = List.replicate n 1 := by
  unfold plusR
  rw [List.length_replicate]
  refine List.ext_getElem (by rw [List.length_map, List.length_range, List.length_replicate]) fun i h1 h2 => ?_
  rw [List.length_map, List.length_range] at h1
  rw [List.getElem_map, List.getElem_range, List.getElem_replicate]
  have e : (i : Int) ∈ fullR70 n := List.mem_map.mpr ⟨i, List.mem_range.mpr h1, rfl⟩
  rw [if_pos e, List.getD_eq_getElem?_getD, List.getElem?_replicate]
  split <;> rfl
theorem full_kept70 {js : List Job} (gp : ∀ j ∈ js, GoodPart 16 j.2.1 j.2.2) : keptAll js 1 (List.replicate js.length 1) = true := by
  unfold keptAll keptM
  refine List.all_eq_true.mpr fun b hb => ?_
  obtain ⟨i, hi⟩ := List.mem_iff_getElem?.mp hb
  rw [List.getElem?_zipWith] at hi
  cases e : js[i]? with
  | none => rw [e] at hi; cases hi
  | some j =>
    obtain ⟨g1, g2, g3, g4⟩ := gp j (List.mem_of_getElem? e)
    rw [e, List.getElem?_replicate, if_pos (List.getElem?_eq_some_iff.mp e).1] at hi
    obtain rfl := Option.some.inj hi
    show decide _ = true
    refine decide_eq_true ?_
    split <;> omega
end Ts
namespace Ts
open PySem PySem.Spec PyProof.Rows L2 L2H LamX
/-! ## set of a tuple of ints -/
section
variable {P : Program} {w : World} {A : Around} {E : Value → Shared → Prop} {s : Shared}
def nset58 (w : World) : Obj := { cls := .type "set", dict := none, data := .set #[] 0 (.fresh 0 0 (!w.params.followText "set-order")) }
set_option maxHeartbeats 3200000 in
theorem call_set_lstI58 {l : Addr} {its : Array Value} (ns : List Int) {Q : Value → Shared → Prop}
    (hA : A.handled = none) (ht : s.heap.IsList l its) (hi : IntsAre its.toList ns) (room : ns.length + 1 < scanBound)
    (q : ∀ (h2 : Heap) (t2 c : Nat), SetR w h2 s.heap.objs.size (fun j => decide (j ∈ ns)) c → c ≤ ns.length → (∀ b o, s.heap.get? b = some o → h2.get? b = some o) →
      Q (.ref s.heap.objs.size) { s with heap := h2, toks := t2 }) : wpAny (model P w) A (call (.type "set") [.ref l]) Q E s := by
  have sz : its.size = ns.length := by have := IntsAre.length hi; rwa [Array.length_toList] at this
  obtain ⟨c9, tl9, mro9⟩ := PySem.F.called_set.mro
  have made9 := PySem.F.called_set.made; have sub9 := PySem.F.called_set.sub
  refine wpAny_call (codeAny_of_tree ?_); show wpAny _ _ (callAny (.type "set") _) _ _ _
  refine wpAny_pure ⟨Code.quiet_builtin _ (by decide +kernel), ?_⟩
  refine codeAny_builtin PySem.F.entry_type_call ?_
  rw [Around.under_plain (weight_type_call_type "set" [.ref l] []) rfl]
  have n9 := PySem.F.called_set.notType; have k9 := PySem.F.called_set.canCreate; have t9 := PySem.F.typeCall_set_1 (.ref l)
  repeat any_goals (first | assumption | wp_step)
  refine codeAny_mono (code_set_led1 (.ref l) (E := E) (Q₁ := fun v s1 => v = .ref s.heap.objs.size ∧ s1 = { s with heap := s.heap.push (nset58 w) }) ⟨rfl, rfl⟩) fun r s1 hr => ?_
  cases r with
  | error z => exact hr
  | ok fl => cases fl with
    | ret v =>
      obtain ⟨rfl, rfl⟩ := hr
      have gS : (s.heap.push (nset58 w)).get? s.heap.objs.size = some (nset58 w) := Heap.get?_push_size _ rfl
      have gT : Shared.TypeIs { s with heap := s.heap.push (nset58 w) } (.ref s.heap.objs.size) "set" := ⟨_, gS, rfl⟩
      have i9 := PySem.F.called_set.init.lookup; have b9 := PySem.F.called_set.init.bind (.ref s.heap.objs.size)
      repeat any_goals (first | assumption | wp_step)
      refine codeAny_mono (codeAny_call_builtin (R := wants (fun r s2 => r = .none ∧ ∃ h2 t2 c, s2 = { s with heap := h2, toks := t2 } ∧ SetR w h2 s.heap.objs.size (fun j => decide (j ∈ ns)) c ∧ c ≤ ns.length ∧
          ∀ b o, s.heap.get? b = some o → h2.get? b = some o) E) PySem.F.called_set.init.plain PySem.F.entry_set_init (check_set_init_1 gT ?_)) fun r2 s2 hr2 => ?_
      · obtain ⟨⟨oc, od, oda, os⟩, hol, hc, nl, hd⟩ := ht
        simp only at hc hd
        subst hc hd
        have hol2 : (s.heap.push (nset58 w)).get? l = some { cls := .type "list", dict := od, data := .seq its nl, slots := os } := Heap.get?_push_of_some _ hol
        have q1 := PySem.F.sub_list_set; have q2 := PySem.F.sub_list_frozenset
        have q3 : (Value.type "list" == Value.type "dict") = false := by decide
        have lst1 : (s.heap.push (nset58 w)).IsList l its := ⟨_, hol2, rfl, nl, rfl⟩
        unfold Builtin.«set.__init__» Builtin.Frozenset.updateFrom noKeywords
        generalize eP : pyIter = PI
        wp_walk
        subst eP
        refine wpAny_pyIter_list lst1 (wpAny_bind (wpAny_runValue ?_))
        have lS : l < s.heap.objs.size := Heap.lt_size hol
        have h3 : A.in1.in1.in1.handled = none := by simp [hA]
        have nI : l ≠ (s.heap.push (nset58 w)).objs.size := by rw [Heap.size_push]; exact Nat.ne_of_lt (Nat.lt_succ_of_lt lS)
        have nF : s.heap.objs.size ∉ [(s.heap.push (nset58 w)).objs.size, l] := by
          rw [Heap.size_push]
          simp only [List.mem_cons, List.mem_singleton, List.not_mem_nil, or_false, not_or]
          exact And.intro (Nat.ne_of_lt (Nat.lt_succ_self _)) (Nat.ne_of_gt lS)
        have vals : ∀ (i : Nat) (v : Value), its[i]? = some v → ∃ k t, ns[i]? = some k ∧ v = .int k t := fun i v e => by
          have li : i < ns.length := by rw [← sz]; exact (Array.getElem?_eq_some_iff.mp e).1
          obtain ⟨t, rfl⟩ := IntsAre.int_at hi i v (by rw [Array.getElem?_toList]; exact e)
          refine ⟨_, t, List.getElem?_eq_getElem li, ?_⟩
          rw [List.getD_eq_getElem?_getD, List.getElem?_eq_getElem li]; rfl
        refine set_update_ints ((Walks.list h3 _ l nI its).toS) s.heap.objs.size nF ns sz room vals (its.size - 0) 0 _ (by omega) (Nat.zero_le _) ⟨⟨_, Heap.get?_push_size _ rfl, rfl, rfl⟩, (lst1.push _)⟩ ?h0 ?hR
        case h0 =>
          have g0 : ((s.heap.push (nset58 w)).push { cls := .type "list_iterator", data := .fields #[.ref l, .int 0 0] }).get? s.heap.objs.size = some (nset58 w) := Heap.get?_push_of_some _ gS
          exact ⟨0, Nat.le_refl 0, setR_new_at g0⟩
        case hR =>
          rintro ⟨h2, g2, d2, t2, o2⟩ c2 hm hc2 hS2
          obtain rfl : g2 = s.gens := hm.gens
          obtain rfl : d2 = s.drawn := hm.drawn
          obtain rfl : o2 = s.os := hm.os
          show wpAny _ _ _ _ _ _
          refine wpAny_pure ?_; show wpAny _ _ (ret Value.none) _ _ _
          rw [sz] at hc2
          refine wpAny_pure ⟨rfl, h2, t2, c2, rfl, hS2, hc2, fun b o e => hm.heap b o ?_ (Heap.get?_push_of_some _ (Heap.get?_push_of_some _ e))⟩
          have lb : b < s.heap.objs.size := Heap.lt_size e
          have z1 : b ≠ s.heap.objs.size := Nat.ne_of_lt lb
          have z2 : b ≠ (s.heap.push (nset58 w)).objs.size := by rw [Heap.size_push]; exact Nat.ne_of_lt (Nat.lt_succ_of_lt lb)
          simp only [List.mem_cons, List.mem_singleton, List.not_mem_nil, or_false, not_or]; exact ⟨z1, z2⟩
      · cases r2 with
        | error z => exact hr2
        | ok f2 => cases f2 with
          | ret r =>
            obtain ⟨rfl, h2, t2, c2, rfl, hS2, hc2, k2⟩ := hr2
            repeat any_goals (first | assumption | wp_step)
            exact q _ _ _ hS2 hc2 k2
          | _ => exact hr2.elim
    | _ => exact hr.elim
end
section
variable {X : Cx}
/-- set(t), t a list or tuple of fewer than 64 ints -/
def rSetI58 (K : PySem.W.Frag) (w : World) : List V → Hp → VK → Prop := fun xs H Q => ∃ (l : Addr) (ns : List Int), xs = [.ref l] ∧ (SqL K H l (ns.map V.int) ∨ SqT K H l (ns.map V.int)) ∧ ns.length < 64 ∧
  ∀ (p : Addr) (n : Nat), n < 64 → H p = none → Q (.ref p) (upd H p (SetO w p (fun k => decide (k ∈ ns)) n))
theorem cr_setI58 (hc : X.calm = true) : CallR X (.type "set") (rSetI58 X.K X.w) := by
  intro pins s σ H xs us Q I r h
  obtain ⟨l, ns, rfl, hl, h64, q⟩ := h
  rw [Vals.ref1 r]
  have fin : ∀ (h2 : Heap) (t2 c : Nat), SetR X.w h2 s.heap.objs.size (fun j => decide (j ∈ ns)) c → c ≤ ns.length → (∀ b o, s.heap.get? b = some o → h2.get? b = some o) → EP X pins σ Q (.ref s.heap.objs.size) { s with heap := h2, toks := t2 } := fun h2 t2 c R lc k =>
    ⟨.ref s.heap.objs.size, _, I.laid (t' := t2) k (Nat.le_refl _) (setO_new R), rfl, q _ c (Nat.lt_of_le_of_lt lc h64) (I.hok.fresh (Nat.le_refl _))⟩
  have room : ns.length + 1 < scanBound := by unfold scanBound; omega
  rcases hl with hl | hl
  · obtain ⟨its, rv, pl, hz⟩ := I.list hl
    exact call_set_lstI58 ns (I.ok.hd hc) pl.isList (by simpa using rv.ints) room fin
  · obtain ⟨its, rv, pl, hz⟩ := I.tuple hl
    exact call_set_tupI ns (I.ok.hd hc) pl (by simpa using rv.ints) room fin
end
end Ts
namespace Ts
open PySem PySem.Spec PyProof.Rows L2 L2H LamX
theorem setI58 {X : Cx} {K : PySem.W.Frag} {w : World} (hK : X.K = K) (hw : X.w = w) (hc : X.calm = true) : CallR X (.type "set") (rSetI58 K w) := by subst hK hw; exact cr_setI58 hc
theorem sortedI58 {X : Cx} {w : World} (hw : X.w = w) (hc : X.calm = true) : CallR X (.builtin "sorted") (rSortedSet w) := by subst hw; exact cr_sortedSet hc
theorem asc_eq58 : ∀ {us ns : List Int}, us.Pairwise (· < ·) → ns.Pairwise (· < ·) → (∀ k, k ∈ ns ↔ k ∈ us) → ns = us
  | [], [], _, _, _ => rfl
  | [], n :: ns, _, _, h => absurd ((h n).mp List.mem_cons_self) (fun z => by cases z)
  | u :: us, [], _, _, h => absurd ((h u).mpr List.mem_cons_self) (fun z => by cases z)
  | u :: us, n :: ns, h1, h2, h => by
    obtain ⟨a1, a2⟩ := List.pairwise_cons.mp h1
    obtain ⟨b1, b2⟩ := List.pairwise_cons.mp h2
    have e : n = u := by
      rcases List.mem_cons.mp ((h n).mp List.mem_cons_self) with z | z
      · exact z
      · rcases List.mem_cons.mp ((h u).mpr List.mem_cons_self) with y | y
        · exact y.symm
        · have := a1 n z; have := b1 u y; omega
    subst e
    refine congrArg (n :: ·) (asc_eq58 a2 b2 fun k => ⟨fun z => ?_, fun z => ?_⟩)
    · rcases List.mem_cons.mp ((h k).mp (List.mem_cons_of_mem _ z)) with y | y
      · have := b1 k z; omega
      · exact y
    · rcases List.mem_cons.mp ((h k).mpr (List.mem_cons_of_mem _ z)) with y | y
      · have := a1 k z; omega
      · exact y
end Ts
namespace Ts
/-! ## crews as rows of truths, the lowest first -/
def numB : List Bool → Nat
  | [] => 0
  | b :: bs => b.toNat + 2 * numB bs
theorem numB_app : ∀ (xs ys : List Bool), numB (xs ++ ys) = numB xs + 2 ^ xs.length * numB ys
  | [], ys => by simp [numB]
  | x :: xs, ys => by
    show x.toNat + 2 * numB (xs ++ ys) = x.toNat + 2 * numB xs + 2 ^ (xs.length + 1) * numB ys
    rw [numB_app xs ys, Nat.pow_succ, Nat.mul_add, Nat.mul_comm (2 ^ xs.length) 2, Nat.mul_assoc]; omega
theorem numB_snoc (xs : List Bool) (b : Bool) : numB (xs ++ [b]) = numB xs + 2 ^ xs.length * b.toNat := by
  rw [numB_app]; simp [numB]
theorem numB_lt : ∀ bs : List Bool, numB bs < 2 ^ bs.length
  | [] => by decide
  | b :: bs => by
    have := numB_lt bs
    show b.toNat + 2 * numB bs < 2 ^ (bs.length + 1)
    have hb : b.toNat ≤ 1 := Bool.toNat_le b
    rw [Nat.pow_succ]; omega
theorem numB_bit : ∀ (bs : List Bool) (i : Nat), (numB bs).testBit i = bs.getD i false
  | [], i => by simp [numB]
  | b :: bs, 0 => by
    show (b.toNat + 2 * numB bs).testBit 0 = b
    rw [Nat.testBit_zero]
    cases b <;> simp <;> omega
  | b :: bs, i + 1 => by
    show (b.toNat + 2 * numB bs).testBit (i + 1) = bs.getD i false
    rw [Nat.testBit_succ, ← numB_bit bs i]
    congr 1
    cases b <;> simp <;> omega
/-- every number below is such a row -/
def bitsN (n a : Nat) : List Bool := (List.range n).map a.testBit
theorem bitsN_len (n a : Nat) : (bitsN n a).length = n := by simp [bitsN]
theorem bitsN_num {n a : Nat} (h : a < 2 ^ n) : numB (bitsN n a) = a := by
  refine Nat.eq_of_testBit_eq fun i => ?_
  rw [numB_bit, List.getD_eq_getElem?_getD]
  unfold bitsN
  rw [List.getElem?_map]
  by_cases hi : i < n
  · rw [List.getElem?_range hi]; rfl
  · rw [List.getElem?_eq_none (by rw [List.length_range]; omega)]
    exact (Nat.testBit_lt_two_pow (Nat.lt_of_lt_of_le h (Nat.pow_le_pow_right (by decide) (by omega)))).symm
theorem numB_mid (xs ys : List Bool) : numB (xs ++ true :: ys) = numB (xs ++ false :: ys) + 2 ^ xs.length := by
  rw [numB_app, numB_app]
  show numB xs + 2 ^ xs.length * (1 + 2 * numB ys) = numB xs + 2 ^ xs.length * (0 + 2 * numB ys) + 2 ^ xs.length
  rw [Nat.mul_add, Nat.mul_add]; omega
/-! ### crews as numbers -/
theorem crew_posL {α : Type} (p : α → Bool) : ∀ (l : List α) (i : Nat), crewN (posL p l i) = 2 ^ i * numB (l.map p)
  | [], i => by simp [posL, crewN, numB]
  | x :: r, i => by
    have ih := crew_posL p r (i + 1)
    unfold posL
    rw [List.map_cons]
    cases hp : p x with
    | true =>
      rw [if_pos rfl]
      show 2 ^ i + crewN (posL p r (i + 1)) = 2 ^ i * (1 + 2 * numB (r.map p))
      rw [ih, Nat.pow_succ, Nat.mul_add, Nat.mul_one, Nat.mul_assoc]
    | false =>
      rw [if_neg (by decide), ih]
      show _ = 2 ^ i * (0 + 2 * numB (r.map p))
      rw [Nat.pow_succ, Nat.zero_add, Nat.mul_assoc]
theorem crew_posL0 {α : Type} (p : α → Bool) (l : List α) : crewN (posL p l 0) = numB (l.map p) := by rw [crew_posL]; simp
/-! ### sets of numbers as a number -/
theorem crew_lt : ∀ (ms : List Nat) (b : Nat), ms.Pairwise (· < ·) → (∀ m ∈ ms, m < b) → crewN ms < 2 ^ b := by
  intro ms
  induction hn : ms.length generalizing ms with
  | zero =>
    intro b _ _
    rw [List.length_eq_zero_iff.mp hn]
    exact Nat.two_pow_pos b
  | succ n ih =>
    intro b hp hb
    have hne : ms ≠ [] := fun e => by rw [e] at hn; cases hn
    obtain ⟨ys, y, rfl⟩ : ∃ ys y, ms = ys ++ [y] := ⟨ms.dropLast, ms.getLast hne, (List.dropLast_concat_getLast hne).symm⟩
    have hl : ys.length = n := by simpa using hn
    obtain ⟨p1, _, p3⟩ := List.pairwise_append.mp hp
    have h1 := ih ys hl y p1 fun m hm => p3 m hm y (by simp)
    have hy := hb y (by simp)
    rw [crew_snoc]
    have : 2 ^ (y + 1) ≤ 2 ^ b := Nat.pow_le_pow_right (by decide) hy
    rw [Nat.pow_succ] at this
    omega
theorem crew_bit : ∀ (ms : List Nat) (a : Nat), ms.Pairwise (· < ·) → (crewN ms).testBit a = decide (a ∈ ms) := by
  intro ms
  induction hn : ms.length generalizing ms with
  | zero =>
    intro a _
    rw [List.length_eq_zero_iff.mp hn]
    simp [crewN]
  | succ n ih =>
    intro a hp
    have hne : ms ≠ [] := fun e => by rw [e] at hn; cases hn
    obtain ⟨ys, y, rfl⟩ : ∃ ys y, ms = ys ++ [y] := ⟨ms.dropLast, ms.getLast hne, (List.dropLast_concat_getLast hne).symm⟩
    have hl : ys.length = n := by simpa using hn
    obtain ⟨p1, _, p3⟩ := List.pairwise_append.mp hp
    have lo : ∀ m ∈ ys, m < y := fun m hm => p3 m hm y (by simp)
    have h1 := crew_lt ys y p1 lo
    have h2 := ih ys hl a p1
    rw [crew_snoc, Nat.add_comm]
    rcases Nat.lt_trichotomy a y with c | c | c
    · rw [Nat.testBit_two_pow_add_gt c, h2]
      exact decide_eq_decide.mpr (by simp; omega)
    · subst c
      rw [Nat.testBit_two_pow_add_eq, Nat.testBit_lt_two_pow h1]
      simp
    · have h3 : 2 ^ y + crewN ys < 2 ^ a := by
        have : 2 ^ (y + 1) ≤ 2 ^ a := Nat.pow_le_pow_right (by decide) c
        rw [Nat.pow_succ] at this
        omega
      rw [Nat.testBit_lt_two_pow h3]
      refine (decide_eq_false fun z => ?_).symm
      rcases List.mem_append.mp z with z | z
      · have := lo a z; omega
      · have : a = y := by simpa using z
        omega
theorem subs_lt (n : Nat) {w : List Nat} (h : w ∈ subsN n) {p : Nat} (hp : p ∈ w) : p < 2 ^ n := (subs_in n w h).2 p hp
theorem subs_asc : ∀ n, ∀ w ∈ subsN n, w.Pairwise (· < ·)
  | 0, w, h => by
    have e : w = [0] := by simpa [subsN] using h
    subst e
    simp
  | n + 1, w, h => by
    rcases List.mem_append.mp h with h | h
    · exact subs_asc n w h
    · obtain ⟨u, hu, rfl⟩ := List.mem_map.mp h
      have ih := subs_asc n u hu
      refine List.pairwise_append.mpr ⟨ih, List.pairwise_map.mpr (ih.imp fun {a b} z => by omega), fun a ha b hb => ?_⟩
      obtain ⟨c, _, rfl⟩ := List.mem_map.mp hb
      have := subs_lt n hu ha
      omega
theorem subs_getD (n c : Nat) (h : c < 2 ^ n) : (subsN n).getD c [] ∈ subsN n := by
  have hl : c < (subsN n).length := by rw [subs_len]; exact h
  rw [List.getD_eq_getElem?_getD, List.getElem?_eq_getElem hl]
  exact List.getElem_mem hl
theorem subs_low {n c : Nat} (h : c < 2 ^ n) : (subsN (n + 1)).getD c [] = (subsN n).getD c [] := by
  rw [subsN, List.getD_eq_getElem?_getD, List.getElem?_append_left (by rw [subs_len]; exact h), ← List.getD_eq_getElem?_getD]
theorem subs_high {n c : Nat} (h : c < 2 ^ n) : (subsN (n + 1)).getD (c + 2 ^ n) [] = (subsN n).getD c [] ++ ((subsN n).getD c []).map (· + 2 ^ n) := by
  have hl : c < (subsN n).length := by rw [subs_len]; exact h
  rw [subsN, List.getD_eq_getElem?_getD, List.getElem?_append_right (by rw [subs_len]; omega), List.getElem?_map, subs_len, Nat.add_sub_cancel, List.getD_eq_getElem?_getD, List.getElem?_eq_getElem hl]; rfl
/-- one crew within another -/
def subB : List Bool → List Bool → Bool
  | [], [] => true
  | c :: cs, p :: ps => (!p || c) && subB cs ps
  | _, _ => false
theorem subB_len : ∀ {cs ps : List Bool}, subB cs ps = true → cs.length = ps.length
  | [], [], _ => rfl
  | c :: cs, p :: ps, h => by
    have := subB_len (Bool.and_eq_true_iff.mp h).2
    simp [this]
  | [], _ :: _, h => by cases h
  | _ :: _, [], h => by cases h
theorem subB_snoc : ∀ {cs ps : List Bool} (c p : Bool), cs.length = ps.length → subB (cs ++ [c]) (ps ++ [p]) = (subB cs ps && (!p || c))
  | [], [], c, p, _ => by simp [subB]
  | d :: cs, q :: ps, c, p, h => by
    show ((!q || d) && subB (cs ++ [c]) (ps ++ [p])) = (((!q || d) && subB cs ps) && (!p || c))
    rw [subB_snoc c p (by simpa using h), Bool.and_assoc]
  | [], _ :: _, _, _, h => by cases h
  | _ :: _, [], _, _, h => by cases h
theorem snoc_of {α : Type} {n : Nat} {l : List α} (h : l.length = n + 1) : ∃ ys y, l = ys ++ [y] ∧ ys.length = n := by
  have hne : l ≠ [] := fun e => by rw [e] at h; cases h
  exact ⟨l.dropLast, l.getLast hne, (List.dropLast_concat_getLast hne).symm, by rw [List.length_dropLast, h]; rfl⟩
theorem subs_mem : ∀ (n : Nat) (cs ps : List Bool), cs.length = n → ps.length = n → (numB ps ∈ (subsN n).getD (numB cs) [] ↔ subB cs ps = true)
  | 0, cs, ps, h1, h2 => by
    rw [List.length_eq_zero_iff.mp h1, List.length_eq_zero_iff.mp h2]
    simp [numB, subsN, subB]
  | n + 1, cs, ps, h1, h2 => by
    obtain ⟨cs, c, rfl, k1⟩ := snoc_of h1
    obtain ⟨ps, p, rfl, k2⟩ := snoc_of h2
    have ih := subs_mem n cs ps k1 k2
    have lc : numB cs < 2 ^ n := by have := numB_lt cs; rwa [k1] at this
    have lp : numB ps < 2 ^ n := by have := numB_lt ps; rwa [k2] at this
    have inn := subs_getD n _ lc
    rw [subB_snoc c p (k1.trans k2.symm), numB_snoc, numB_snoc, k1, k2]
    cases c with
    | false =>
      rw [show numB cs + 2 ^ n * false.toNat = numB cs by simp, subs_low lc]
      cases p with
      | false => rw [show numB ps + 2 ^ n * false.toNat = numB ps by simp, ih]; simp
      | true =>
        rw [show numB ps + 2 ^ n * true.toNat = numB ps + 2 ^ n by simp]
        constructor
        · intro z
          have := subs_lt n inn z
          omega
        · intro z; simp at z
    | true =>
      rw [show numB cs + 2 ^ n * true.toNat = numB cs + 2 ^ n by simp, subs_high lc, List.mem_append]
      cases p with
      | false =>
        rw [show numB ps + 2 ^ n * false.toNat = numB ps by simp, ih]
        constructor
        · rintro (z | z)
          · rw [z]; rfl
          · obtain ⟨u, _, e⟩ := List.mem_map.mp z
            omega
        · intro z; left; simpa using z
      | true =>
        rw [show numB ps + 2 ^ n * true.toNat = numB ps + 2 ^ n by simp]
        constructor
        · rintro (z | z)
          · have := subs_lt n inn z
            omega
          · obtain ⟨u, hu, e⟩ := List.mem_map.mp z
            have : u = numB ps := by omega
            rw [this] at hu
            rw [ih.mp hu]; rfl
        · intro z
          right
          exact List.mem_map.mpr ⟨_, ih.mpr (by simpa using z), rfl⟩
theorem poss_bit {n : Nat} {cs ps : List Bool} (h1 : cs.length = n) (h2 : ps.length = n) : (possN n (numB cs)).testBit (numB ps) = subB cs ps := by
  have lc : numB cs < 2 ^ n := by have := numB_lt cs; rwa [h1] at this
  unfold possN
  rw [crew_bit _ _ (subs_asc n _ (subs_getD n _ lc))]
  have := subs_mem n cs ps h1 h2
  cases e : subB cs ps with
  | true => exact decide_eq_true (this.mpr e)
  | false => exact decide_eq_false fun z => by rw [this.mp z] at e; cases e
theorem poss_big {n : Nat} {c a : Nat} (h : c < 2 ^ n) (ha : (possN n c).testBit a = true) : a < 2 ^ n := by
  unfold possN at ha
  rw [crew_bit _ _ (subs_asc n _ (subs_getD n _ h))] at ha
  exact subs_lt n (subs_getD n _ h) (of_decide_eq_true ha)
theorem full_mem : ∀ (n a : Nat), a ∈ (subsN n).getD (2 ^ n - 1) [] ↔ a < 2 ^ n
  | 0, a => by simp [subsN]; 
  | n + 1, a => by
    have h0 := Nat.two_pow_pos n
    have e : 2 ^ (n + 1) - 1 = (2 ^ n - 1) + 2 ^ n := by rw [Nat.pow_succ]; omega
    have ih := full_mem n
    rw [e, subs_high (by omega), List.mem_append, ih, Nat.pow_succ]
    constructor
    · rintro (z | z)
      · omega
      · obtain ⟨u, hu, rfl⟩ := List.mem_map.mp z
        have := (ih u).mp hu
        omega
    · intro z
      by_cases c : a < 2 ^ n
      · exact .inl c
      · exact .inr (List.mem_map.mpr ⟨a - 2 ^ n, (ih _).mpr (by omega), by omega⟩)
theorem na_bit (n i a : Nat) : (notAheadN n i).testBit a = (decide (a < 2 ^ n) && !a.testBit i) := by
  have h0 := Nat.two_pow_pos n
  unfold notAheadN
  have asc := (subs_asc n _ (subs_getD n (2 ^ n - 1) (by omega))).filter (p := fun a => a / 2 ^ i % 2 == 0)
  rw [crew_bit _ _ asc]
  have : a ∈ ((subsN n).getD (2 ^ n - 1) []).filter (fun a => a / 2 ^ i % 2 == 0) ↔ (a < 2 ^ n ∧ a / 2 ^ i % 2 = 0) := by
    rw [List.mem_filter, full_mem]; simp
  rw [Nat.testBit_eq_decide_div_mod_eq]
  by_cases c : a < 2 ^ n
  · rw [decide_eq_true c]
    by_cases d : a / 2 ^ i % 2 = 0
    · rw [decide_eq_true (this.mpr ⟨c, d⟩)]
      simp [d]
    · rw [decide_eq_false fun z => d (this.mp z).2]
      have : a / 2 ^ i % 2 = 1 := by omega
      simp [this]
  · rw [decide_eq_false c, decide_eq_false fun z => c (this.mp z).1]; rfl
/-! ### one work taken back -/
theorem sub_bit {a i : Nat} (h : 2 ^ i ≤ a) : (a - 2 ^ i).testBit i = !a.testBit i := by
  have e : a = 2 ^ i + (a - 2 ^ i) := by omega
  have := Nat.testBit_two_pow_add_eq (a - 2 ^ i) i
  rw [← e] at this
  rw [this]; simp
theorem step_bit {n grown given idle : Nat} {xs ys : List Bool} {v : Bool} (hn : xs.length + 1 + ys.length = n) :
    (stepN grown xs.length (notAheadN n xs.length) given idle).testBit (numB (xs ++ v :: ys)) =
      if grown.testBit xs.length = true then (given.testBit (numB (xs ++ v :: ys)) || (v && idle.testBit (numB (xs ++ false :: ys)))) else (idle.testBit (numB (xs ++ v :: ys)) || (!v && given.testBit (numB (xs ++ true :: ys)))) := by
  have bitv : ∀ b : Bool, (numB (xs ++ b :: ys)).testBit xs.length = b := fun b => by
    rw [numB_bit, List.getD_eq_getElem?_getD, List.getElem?_append_right (Nat.le_refl _), Nat.sub_self]; rfl
  have big : ∀ b : Bool, numB (xs ++ b :: ys) < 2 ^ n := fun b => by
    have := numB_lt (xs ++ b :: ys)
    rw [List.length_append, List.length_cons] at this
    rwa [show xs.length + (ys.length + 1) = n by omega] at this
  have mid := numB_mid xs ys
  have bf := bitv false
  have gb : grown.testBit xs.length = decide (grown / 2 ^ xs.length % 2 = 1) := Nat.testBit_eq_decide_div_mod_eq
  unfold stepN
  rw [gb]
  by_cases g : grown / 2 ^ xs.length % 2 = 1
  · rw [if_pos g, if_pos (decide_eq_true g), Nat.testBit_or, Nat.testBit_mul_two_pow, Nat.testBit_and, na_bit]
    congr 1
    cases v with
    | true =>
      rw [mid, Nat.add_sub_cancel, decide_eq_true (show 2 ^ xs.length ≤ numB (xs ++ false :: ys) + 2 ^ xs.length by omega), decide_eq_true (big false), bf]
      simp
    | false =>
      by_cases c : 2 ^ xs.length ≤ numB (xs ++ false :: ys)
      · rw [sub_bit c, bf]
        simp
      · rw [decide_eq_false c]; rfl
  · rw [if_neg g, if_neg (fun z => g (of_decide_eq_true z)), Nat.testBit_or, Nat.testBit_and, Nat.testBit_div_two_pow, na_bit, decide_eq_true (big v), bitv v]
    congr 1
    cases v with
    | true => simp
    | false => rw [← mid]; simp
/-! ### all works taken back -/
/-- b: who is ahead behind the tick; a: ahead of it; s: who has a hand; g: whose lower number grows -/
def relB : List Bool → List Bool → List Bool → List Bool → Prop
  | g :: gs, a :: as, s :: ss, b :: bs => b.toNat + g.toNat = a.toNat + s.toNat ∧ relB gs as ss bs
  | [], [], [], [] => True
  | _, _, _, _ => False
def cntB (ss : List Bool) : Nat := (ss.filter id).length
theorem cntB_cons (s : Bool) (ss : List Bool) : cntB (s :: ss) = s.toNat + cntB ss := by
  unfold cntB
  cases s <;> simp <;> omega
theorem relB_len : ∀ {gs as ss bs : List Bool}, relB gs as ss bs → as.length = gs.length ∧ ss.length = gs.length ∧ bs.length = gs.length
  | [], [], [], [], _ => ⟨rfl, rfl, rfl⟩
  | g :: gs, a :: as, s :: ss, b :: bs, h => by
    obtain ⟨h1, h2, h3⟩ := relB_len h.2
    exact ⟨by simp [h1], by simp [h2], by simp [h3]⟩
  | [], [], [], _ :: _, h => h.elim
  | [], [], _ :: _, _, h => h.elim
  | [], _ :: _, _, _, h => h.elim
  | _ :: _, [], _, _, h => h.elim
  | _ :: _, _ :: _, [], _, h => h.elim
  | _ :: _, _ :: _, _ :: _, [], h => h.elim
theorem pair_at (found : List Nat) (f : Nat → Nat → Nat) (f0 : f 0 0 = 0) (k : Nat) : ((pairN found).map fun q => f q.2 q.1).getD k 0 = f (if k = 0 then 0 else found.getD (k - 1) 0) (found.getD k 0) := by
  unfold pairN
  rw [List.getD_eq_getElem?_getD, List.getElem?_map]
  by_cases h : k < found.length + 1
  · have e1 : (found ++ [0])[k]? = some (found.getD k 0) := by
      by_cases c : k < found.length
      · rw [List.getElem?_append_left c, List.getD_eq_getElem?_getD, List.getElem?_eq_getElem c]; rfl
      · have : k = found.length := by omega
        subst this
        rw [List.getElem?_append_right (Nat.le_refl _), List.getD_eq_getElem?_getD, List.getElem?_eq_none (Nat.le_refl _), Nat.sub_self]; rfl
    have e2 : (0 :: found)[k]? = some (if k = 0 then 0 else found.getD (k - 1) 0) := by
      cases k with
      | zero => rfl
      | succ k =>
        rw [if_neg (by omega), List.getElem?_cons_succ, Nat.add_sub_cancel, List.getD_eq_getElem?_getD, List.getElem?_eq_getElem (show k < found.length by omega)]; rfl
    have e3 : ((found ++ [0]).zip (0 :: found))[k]? = some (found.getD k 0, if k = 0 then 0 else found.getD (k - 1) 0) := List.getElem?_zip_eq_some.mpr ⟨e1, e2⟩
    rw [e3]; rfl
  · have e3 : ((found ++ [0]).zip (0 :: found))[k]? = none := List.getElem?_eq_none (by rw [List.length_zip, List.length_append, List.length_cons, List.length_cons]; simp; omega)
    rw [e3]
    show 0 = _
    rw [if_neg (by omega), List.getD_eq_getElem?_getD, List.getD_eq_getElem?_getD, List.getElem?_eq_none (by omega), List.getElem?_eq_none (by omega)]
    exact f0.symm
theorem step_zero (grown i o : Nat) : stepN grown i o 0 0 = 0 := by
  unfold stepN
  split <;> simp
theorem found_bit (n grown : Nat) : ∀ (ys gs xs : List Bool) (found : List Nat) (k : Nat), xs.length + ys.length = n → gs.length = ys.length → (∀ i, i < gs.length → grown.testBit (xs.length + i) = gs.getD i false) →
    (((foundN grown ((List.range' xs.length ys.length).map (notAheadN n)) xs.length found).getD k 0).testBit (numB (xs ++ ys)) = true ↔
      ∃ ss bs, relB gs ys ss bs ∧ cntB ss ≤ k ∧ (found.getD (k - cntB ss) 0).testBit (numB (xs ++ bs)) = true) := by
  intro ys
  induction ys with
  | nil =>
    intro gs xs found k hn hg hb
    have : gs = [] := List.length_eq_zero_iff.mp hg
    subst this
    show (found.getD k 0).testBit (numB (xs ++ [])) = true ↔ _
    constructor
    · intro z; exact ⟨[], [], trivial, Nat.zero_le _, z⟩
    · rintro ⟨ss, bs, r, c, z⟩
      obtain ⟨_, h2, h3⟩ := relB_len r
      have e1 : ss = [] := List.length_eq_zero_iff.mp h2
      have e2 : bs = [] := List.length_eq_zero_iff.mp h3
      subst e1 e2
      exact z
  | cons v ys ih =>
    intro gs xs found k hn hg hb
    cases gs with
    | nil => cases hg
    | cons g gs =>
      have hg0 : grown.testBit xs.length = g := by have := hb 0 (by simp); simpa using this
      have hr : (List.range' xs.length (v :: ys).length).map (notAheadN n) = notAheadN n xs.length :: (List.range' (xs ++ [v]).length ys.length).map (notAheadN n) := by
        rw [List.length_cons, List.range'_succ, List.map_cons, List.length_append]; rfl
      rw [hr]
      show ((foundN grown _ (xs.length + 1) ((pairN found).map fun q => stepN grown xs.length (notAheadN n xs.length) q.2 q.1)).getD k 0).testBit (numB (xs ++ v :: ys)) = true ↔ _
      have h := ih gs (xs ++ [v]) ((pairN found).map fun q => stepN grown xs.length (notAheadN n xs.length) q.2 q.1) k (by rw [List.length_append]; simp at hn ⊢; omega) (by simpa using hg) (fun i hi => by
        have := hb (i + 1) (by simpa using hi)
        rw [List.length_append]
        rw [show xs.length + [v].length + i = xs.length + (i + 1) by simp; omega, this]; rfl)
      rw [List.length_append, show xs.length + [v].length = xs.length + 1 from rfl] at h
      rw [show xs ++ v :: ys = xs ++ [v] ++ ys by simp, List.length_append, show xs.length + [v].length = xs.length + 1 from rfl, h]
      have st : ∀ (bs : List Bool) (j : Nat), bs.length = ys.length → ((((pairN found).map fun q => stepN grown xs.length (notAheadN n xs.length) q.2 q.1).getD j 0).testBit (numB (xs ++ [v] ++ bs)) = true ↔
          ∃ s b : Bool, b.toNat + g.toNat = v.toNat + s.toNat ∧ s.toNat ≤ j ∧ (found.getD (j - s.toNat) 0).testBit (numB (xs ++ b :: bs)) = true) := fun bs j hl => by
        rw [pair_at found (fun x y => stepN grown xs.length (notAheadN n xs.length) x y) (step_zero _ _ _) j, show xs ++ [v] ++ bs = xs ++ v :: bs by simp, step_bit (by simp at hn; omega), hg0]
        cases g with
        | true =>
          rw [if_pos rfl]
          simp only [Bool.or_eq_true, Bool.and_eq_true]
          constructor
          · rintro (z | ⟨rfl, z⟩)
            · by_cases j0 : j = 0
              · rw [if_pos j0] at z; simp at z
              · rw [if_neg j0] at z
                exact ⟨true, v, rfl, by simp; omega, z⟩
            · exact ⟨false, false, by simp, by simp, by simpa using z⟩
          · rintro ⟨s, b, e, c, z⟩
            cases s with
            | true =>
              have : b = v := by cases b <;> cases v <;> simp at e <;> rfl
              subst this
              left
              rw [if_neg (by simp at c; omega)]
              exact z
            | false =>
              have : b = false ∧ v = true := by cases b <;> cases v <;> simp at e <;> exact ⟨rfl, rfl⟩
              obtain ⟨rfl, rfl⟩ := this
              right
              exact ⟨rfl, by simpa using z⟩
        | false =>
          rw [if_neg (by decide)]
          simp only [Bool.or_eq_true, Bool.and_eq_true]
          constructor
          · rintro (z | ⟨hv, z⟩)
            · exact ⟨false, v, rfl, by simp, by simpa using z⟩
            · have : v = false := by simpa using hv
              subst this
              by_cases j0 : j = 0
              · rw [if_pos j0] at z; simp at z
              · rw [if_neg j0] at z
                exact ⟨true, true, rfl, by simp; omega, z⟩
          · rintro ⟨s, b, e, c, z⟩
            cases s with
            | true =>
              have : b = true ∧ v = false := by cases b <;> cases v <;> simp at e <;> exact ⟨rfl, rfl⟩
              obtain ⟨rfl, rfl⟩ := this
              right
              refine ⟨rfl, ?_⟩
              rw [if_neg (by simp at c; omega)]
              exact z
            | false =>
              have : b = v := by cases b <;> cases v <;> simp at e <;> rfl
              subst this
              left
              simpa using z
      constructor
      · rintro ⟨ss, bs, r, c, z⟩
        have hl : bs.length = ys.length := by rw [(relB_len r).2.2, ← (relB_len r).1]
        obtain ⟨s, b, e, c2, z2⟩ := (st bs _ hl).mp z
        refine ⟨s :: ss, b :: bs, ⟨e, r⟩, by rw [cntB_cons]; omega, ?_⟩
        rw [cntB_cons, show k - (s.toNat + cntB ss) = k - cntB ss - s.toNat by omega]
        exact z2
      · rintro ⟨ss, bs, r, c, z⟩
        cases ss with
        | nil => exact r.elim
        | cons s ss =>
          cases bs with
          | nil => exact r.elim
          | cons b bs =>
            rw [cntB_cons] at c z
            have hl : bs.length = ys.length := by rw [(relB_len r.2).2.2, ← (relB_len r.2).1]
            refine ⟨ss, bs, r.2, by omega, (st bs _ hl).mpr ⟨s, b, r.1, by omega, ?_⟩⟩
            rw [show k - cntB ss - s.toNat = k - (s.toNat + cntB ss) by omega]
            exact z
theorem or_bit (a : Nat) : ∀ (l : List Nat) (x : Nat), (l.foldl (· ||| ·) x).testBit a = (x.testBit a || l.any fun y => y.testBit a)
  | [], x => by simp
  | y :: l, x => by rw [List.foldl_cons, or_bit a l, Nat.testBit_or, List.any_cons, Bool.or_assoc]
/-- who can have been ahead: some hands, no more than most, lead to one of those behind -/
theorem before_bit {n after grown most : Nat} {as gs : List Bool} (ha : as.length = n) (hg : gs.length = n) (hb : grown = numB gs) :
    (beforeN after grown ((List.range n).map (notAheadN n)) most).testBit (numB as) = true ↔ ∃ ss bs, relB gs as ss bs ∧ cntB ss ≤ most ∧ after.testBit (numB bs) = true := by
  have key : ∀ k, ((foundN grown ((List.range n).map (notAheadN n)) 0 [after]).getD k 0).testBit (numB as) = true ↔ ∃ ss bs, relB gs as ss bs ∧ cntB ss = k ∧ after.testBit (numB bs) = true := fun k => by
    have h := found_bit n grown as gs [] [after] k (by simpa using ha) (hg.trans ha.symm) (fun i hi => by rw [hb, numB_bit]; simp)
    rw [ha] at h
    have er : List.range' ([] : List Bool).length n = List.range n := by rw [List.range_eq_range']; rfl
    rw [er] at h
    show _ ↔ _
    rw [show ([] : List Bool) ++ as = as from rfl, show ([] : List Bool).length = 0 from rfl] at h
    rw [h]
    constructor
    · rintro ⟨ss, bs, r, c, z⟩
      refine ⟨ss, bs, r, ?_, ?_⟩
      · by_cases e : k - cntB ss = 0
        · omega
        · rw [List.getD_eq_getElem?_getD, List.getElem?_eq_none (by simp; omega)] at z
          simp at z
      · by_cases e : k - cntB ss = 0
        · rw [e] at z; exact z
        · rw [List.getD_eq_getElem?_getD, List.getElem?_eq_none (by simp; omega)] at z
          simp at z
    · rintro ⟨ss, bs, r, c, z⟩
      refine ⟨ss, bs, r, by omega, ?_⟩
      rw [c, Nat.sub_self]; exact z
  unfold beforeN
  rw [or_bit]
  simp only [Nat.zero_testBit, Bool.false_or, List.any_eq_true]
  constructor
  · rintro ⟨x, hx, z⟩
    obtain ⟨k, hk, e⟩ := List.getElem_of_mem hx
    rw [List.length_take] at hk
    have : ((foundN grown ((List.range n).map (notAheadN n)) 0 [after]).getD k 0) = x := by
      rw [List.getElem_take] at e
      rw [List.getD_eq_getElem?_getD, List.getElem?_eq_getElem (by omega), e]; rfl
    rw [← this] at z
    obtain ⟨ss, bs, r, c, q⟩ := (key k).mp z
    exact ⟨ss, bs, r, by omega, q⟩
  · rintro ⟨ss, bs, r, c, q⟩
    have z := (key (cntB ss)).mpr ⟨ss, bs, r, rfl, q⟩
    have hl : cntB ss < (foundN grown ((List.range n).map (notAheadN n)) 0 [after]).length := by
      refine Classical.byContradiction fun no => ?_
      rw [List.getD_eq_getElem?_getD, List.getElem?_eq_none (by omega)] at z
      simp at z
    rw [List.getD_eq_getElem?_getD, List.getElem?_eq_getElem hl] at z
    refine ⟨_, ?_, z⟩
    exact List.mem_take_iff_getElem.mpr ⟨cntB ss, by omega, rfl⟩
end Ts
namespace Ts
open PySem PySem.Spec PyProof.Rows L2
/-! ## standings as rows of truths: who is ahead -/
def rowB : List Job → Int → List Bool → List Int
  | j :: js, t, b :: bs => (lowI j.2.1 j.2.2 t + (b.toNat : Int)) :: rowB js t bs
  | _, _, _ => []
/-- who has two numbers -/
def dbB (js : List Job) (t : Int) : List Bool := js.map fun j => decide (lowI j.2.1 j.2.2 t < highI j.2.1 j.2.2 t)
/-- whose lower number grows -/
def grB (js : List Job) (t : Int) : List Bool := js.map fun j => decide (lowI j.2.1 j.2.2 t < lowI j.2.1 j.2.2 (t + 1))
theorem rowB_len : ∀ {js : List Job} {t : Int} {bs : List Bool}, bs.length = js.length → (rowB js t bs).length = js.length
  | [], _, [], _ => rfl
  | j :: js, t, b :: bs, h => by
    show (rowB js t bs).length + 1 = js.length + 1
    rw [rowB_len (by simpa using h)]
  | [], _, _ :: _, h => by cases h
  | _ :: _, _, [], h => by cases h
theorem kept_bit {e p : Nat} {t x : Int} (hp : 0 < p) : x ∈ keptL e p t ↔ ∃ b : Bool, (!b || decide (lowI e p t < highI e p t)) = true ∧ x = lowI e p t + (b.toNat : Int) := by
  have hh := high_eq (e := e) (t := t) hp
  unfold keptL
  by_cases c : t * (e : Int) % (p : Int) = 0
  · rw [if_pos c] at hh ⊢
    rw [hh]
    constructor
    · intro z
      exact ⟨false, rfl, by simpa using z⟩
    · rintro ⟨b, h, rfl⟩
      cases b with
      | false => simp
      | true => simp at h
  · rw [if_neg c] at hh ⊢
    rw [hh]
    constructor
    · intro z
      have : x = lowI e p t ∨ x = lowI e p t + 1 := by simpa using z
      rcases this with z | z
      · exact ⟨false, rfl, by simpa using z⟩
      · exact ⟨true, by simp; omega, by simpa using z⟩
    · rintro ⟨b, h, rfl⟩
      cases b <;> simp
def inP : List Int → List (List Int) → Prop
  | x :: s, o :: os => x ∈ o ∧ inP s os
  | [], [] => True
  | _, _ => False
theorem picks_in : ∀ (os : List (List Int)) (rows : List (List Int)) (r : List Int), r ∈ os.foldl growR rows ↔ ∃ r0 s, r0 ∈ rows ∧ r = r0 ++ s ∧ inP s os
  | [], rows, r => by
    constructor
    · intro h; exact ⟨r, [], h, by simp, trivial⟩
    · rintro ⟨r0, s, h, rfl, g⟩
      cases s with
      | nil => simpa using h
      | cons _ _ => exact g.elim
  | o :: os, rows, r => by
    rw [List.foldl_cons, picks_in os]
    constructor
    · rintro ⟨r0, s, h, rfl, g⟩
      unfold growR at h
      obtain ⟨r1, h1, h2⟩ := List.mem_flatMap.mp h
      obtain ⟨m, hm, rfl⟩ := List.mem_map.mp h2
      exact ⟨r1, m :: s, h1, by simp, hm, g⟩
    · rintro ⟨r0, s, h, rfl, g⟩
      cases s with
      | nil => exact g.elim
      | cons m s =>
        refine ⟨r0 ++ [m], s, ?_, by simp, g.2⟩
        unfold growR
        exact List.mem_flatMap.mpr ⟨r0, h, List.mem_map.mpr ⟨m, g.1, rfl⟩⟩
theorem opts_in (t : Int) : ∀ (js : List Job) (r : List Int), (∀ j ∈ js, 0 < j.2.2) → (inP r (optsR js t) ↔ ∃ bs, subB (dbB js t) bs = true ∧ r = rowB js t bs)
  | [], r, _ => by
    cases r with
    | nil => exact ⟨fun _ => ⟨[], rfl, rfl⟩, fun _ => trivial⟩
    | cons x r =>
      refine ⟨fun h => h.elim, ?_⟩
      rintro ⟨bs, _, h⟩
      cases h
  | j :: js, r, hp => by
    have ih := fun r => opts_in t js r fun j hj => hp j (List.mem_cons_of_mem _ hj)
    have hj := hp j List.mem_cons_self
    cases r with
    | nil =>
      refine ⟨fun h => h.elim, ?_⟩
      rintro ⟨bs, h1, h⟩
      cases bs with
      | nil => cases h1
      | cons b bs => cases h
    | cons x r =>
      show (x ∈ keptL j.2.1 j.2.2 t ∧ inP r (optsR js t)) ↔ _
      rw [kept_bit hj, ih r]
      constructor
      · rintro ⟨⟨b, h1, rfl⟩, bs, h2, rfl⟩
        exact ⟨b :: bs, Bool.and_eq_true_iff.mpr ⟨h1, h2⟩, rfl⟩
      · rintro ⟨bs, h1, h⟩
        cases bs with
        | nil => cases h1
        | cons b bs =>
          obtain ⟨h2, h3⟩ := Bool.and_eq_true_iff.mp h1
          have h' : x :: r = (lowI j.2.1 j.2.2 t + (b.toNat : Int)) :: rowB js t bs := h
          obtain ⟨e1, e2⟩ := List.cons.inj h'
          exact ⟨⟨b, h2, e1⟩, bs, h3, e2⟩
theorem good_pos {js : List Job} (G : Good 16 js) : ∀ j ∈ js, 0 < j.2.2 := fun j hj => by
  obtain ⟨h1, h2, _⟩ := G.part j hj
  omega
theorem rows_bits {js : List Job} {t : Int} {r : List Int} (G : Good 16 js) : r ∈ rowsR js t ↔ ∃ bs, subB (dbB js t) bs = true ∧ r = rowB js t bs := by
  unfold rowsR picksR
  rw [picks_in, ← opts_in t js r (good_pos G)]
  constructor
  · rintro ⟨r0, s, h, rfl, g⟩
    have : r0 = [] := by simpa using h
    subst this
    simpa using g
  · intro g
    exact ⟨[], r, by simp, rfl, g⟩
theorem dbB_len (js : List Job) (t : Int) : (dbB js t).length = js.length := List.length_map _
theorem grB_len (js : List Job) (t : Int) : (grB js t).length = js.length := List.length_map _
theorem doub_B (js : List Job) (t : Nat) : doubN js t = numB (dbB js (t : Int)) := crew_posL0 _ _
theorem grow_B (js : List Job) (t : Nat) : growN js t = numB (grB js (t : Int)) := by
  unfold growN grownL
  rw [crew_posL0]
  congr 1
  unfold lowsR grB
  rw [List.zip_map', List.map_map]
  rfl
/-! ## hands as rows of truths -/
def addB : List Int → List Bool → List Int
  | x :: r, s :: ss => (x + (s.toNat : Int)) :: addB r ss
  | _, _ => []
def sB (n : Nat) (s : List Int) : List Bool := (List.range n).map fun k : Nat => decide ((k : Int) ∈ s)
theorem sB_len (n : Nat) (s : List Int) : (sB n s).length = n := by simp [sB]
theorem addB_get : ∀ (r : List Int) (ss : List Bool), r.length = ss.length → (addB r ss).length = r.length ∧ ∀ k, k < r.length → (addB r ss).getD k 0 = r.getD k 0 + ((ss.getD k false).toNat : Int)
  | [], [], _ => ⟨rfl, fun k h => by simp at h⟩
  | x :: r, s :: ss, h => by
    obtain ⟨h1, h2⟩ := addB_get r ss (by simpa using h)
    refine ⟨by show (addB r ss).length + 1 = r.length + 1; rw [h1], fun k hk => ?_⟩
    cases k with
    | zero => rfl
    | succ k => exact h2 k (by simpa using hk)
  | [], _ :: _, h => by cases h
  | _ :: _, [], h => by cases h
theorem plus_B (r s : List Int) : plusR r s = addB r (sB r.length s) := by
  obtain ⟨h1, h2⟩ := addB_get r (sB r.length s) (sB_len _ _).symm
  refine List.ext_getElem (by rw [h1]; simp [plusR]) fun k g1 g2 => ?_
  have hk : k < r.length := by rw [h1] at g2; exact g2
  have := h2 k hk
  rw [List.getD_eq_getElem?_getD, List.getElem?_eq_getElem g2] at this
  show _ = _
  rw [show (addB r (sB r.length s))[k] = (some (addB r (sB r.length s))[k]).getD 0 from rfl, this]
  have e : (sB r.length s).getD k false = decide ((k : Int) ∈ s) := by
    rw [List.getD_eq_getElem?_getD]
    unfold sB
    rw [List.getElem?_map, List.getElem?_range hk]; rfl
  have e2 : (plusR r s)[k] = r.getD k 0 + (if ((k : Int) ∈ s) then 1 else 0) := by simp only [plusR, List.getElem_map, List.getElem_range]
  rw [e, e2]
  congr 1
  by_cases c : (k : Int) ∈ s
  · rw [if_pos c, decide_eq_true c]; rfl
  · rw [if_neg c, decide_eq_false c]; rfl
theorem low_grows {e p : Nat} {t : Int} (hp : 0 < p) (he : e ≤ p) : lowI e p (t + 1) = lowI e p t + ((decide (lowI e p t < lowI e p (t + 1))).toNat : Int) := by
  have hp : (0 : Int) < p := by omega
  have h1 : lowI e p t ≤ lowI e p (t + 1) := by
    unfold lowI
    refine Int.ediv_le_ediv hp ?_
    rw [Int.add_mul]; omega
  have h2 : lowI e p (t + 1) ≤ lowI e p t + 1 := by
    unfold lowI
    rw [← Int.add_ediv_of_dvd_right (Int.dvd_refl _) |> fun z => (show (t * (e : Int) + (p : Int)) / (p : Int) = t * (e : Int) / (p : Int) + 1 by rw [z, Int.ediv_self (by omega)])]
    refine Int.ediv_le_ediv hp ?_
    rw [Int.add_mul]; omega
  by_cases c : lowI e p t < lowI e p (t + 1)
  · rw [decide_eq_true c]; simp; omega
  · rw [decide_eq_false c]; simp; omega
theorem good_le {js : List Job} (G : Good 16 js) : ∀ j ∈ js, j.2.1 ≤ j.2.2 := fun j hj => by
  obtain ⟨h1, h2, _⟩ := G.part j hj
  omega
theorem add_rel {t : Int} : ∀ {js : List Job} {as ss bs : List Bool}, (∀ j ∈ js, 0 < j.2.2) → (∀ j ∈ js, j.2.1 ≤ j.2.2) → as.length = js.length → ss.length = js.length → bs.length = js.length →
    (addB (rowB js t as) ss = rowB js (t + 1) bs ↔ relB (grB js t) as ss bs)
  | [], [], [], [], _, _, _, _, _ => ⟨fun _ => trivial, fun _ => rfl⟩
  | j :: js, a :: as, s :: ss, b :: bs, hp, he, h1, h2, h3 => by
    have ih := add_rel (t := t) (js := js) (as := as) (ss := ss) (bs := bs) (fun j hj => hp j (List.mem_cons_of_mem _ hj)) (fun j hj => he j (List.mem_cons_of_mem _ hj)) (by simpa using h1) (by simpa using h2) (by simpa using h3)
    have lg := low_grows (t := t) (hp j List.mem_cons_self) (he j List.mem_cons_self)
    show (lowI j.2.1 j.2.2 t + (a.toNat : Int) + (s.toNat : Int)) :: addB (rowB js t as) ss = (lowI j.2.1 j.2.2 (t + 1) + (b.toNat : Int)) :: rowB js (t + 1) bs ↔ (b.toNat + (decide (lowI j.2.1 j.2.2 t < lowI j.2.1 j.2.2 (t + 1))).toNat = a.toNat + s.toNat ∧ relB (grB js t) as ss bs)
    rw [List.cons.injEq, ih]
    generalize (decide (lowI j.2.1 j.2.2 t < lowI j.2.1 j.2.2 (t + 1))).toNat = g at *
    refine and_congr_left fun _ => ?_
    omega
  | [], _ :: _, _, _, _, _, h, _, _ => by cases h
  | [], [], _ :: _, _, _, _, _, h, _ => by cases h
  | [], [], [], _ :: _, _, _, _, _, h => by cases h
  | _ :: _, [], _, _, _, _, h, _, _ => by cases h
  | _ :: _, _ :: _, [], _, _, _, _, h, _ => by cases h
  | _ :: _, _ :: _, _ :: _, [], _, _, _, _, h => by cases h
/-! ## the sets -/
def posI (ss : List Bool) : List Int := (posL id ss 0).map fun m : Nat => (m : Int)
theorem posI_snoc (ss : List Bool) (b : Bool) : posI (ss ++ [b]) = posI ss ++ if b = true then [(ss.length : Int)] else [] := by
  unfold posI
  rw [posL_snoc, List.map_append, Nat.zero_add]
  cases b <;> rfl
theorem posI_mem : ∀ (ss : List Bool) (k : Int), k ∈ posI ss ↔ ∃ i : Nat, k = (i : Int) ∧ i < ss.length ∧ ss.getD i false = true := by
  intro ss
  induction hn : ss.length generalizing ss with
  | zero =>
    intro k
    have : ss = [] := List.length_eq_zero_iff.mp hn
    subst this
    constructor
    · intro h; cases h
    · rintro ⟨i, _, h, _⟩; omega
  | succ n ih =>
    intro k
    obtain ⟨ss, b, rfl, hl⟩ := snoc_of hn
    have ih := ih ss hl k
    rw [posI_snoc, List.mem_append, ih, hl]
    have old : ∀ i, i < n → (ss ++ [b]).getD i false = ss.getD i false := fun i hi => by
      rw [List.getD_eq_getElem?_getD, List.getElem?_append_left (by omega), ← List.getD_eq_getElem?_getD]
    have new : (ss ++ [b]).getD n false = b := by
      rw [List.getD_eq_getElem?_getD, List.getElem?_append_right (by omega), hl, Nat.sub_self]; rfl
    constructor
    · rintro (⟨i, e, h, g⟩ | z)
      · exact ⟨i, e, by omega, by rw [old i h]; exact g⟩
      · cases b with
        | false => simp at z
        | true =>
          have : k = (n : Int) := by simpa using z
          exact ⟨n, this, by omega, new⟩
    · rintro ⟨i, e, h, g⟩
      by_cases c : i < n
      · exact .inl ⟨i, e, c, by rw [← old i c]; exact g⟩
      · have : i = n := by omega
        subst this
        rw [new] at g
        subst g
        exact .inr (by simp [e])
theorem sB_posI {n : Nat} {ss : List Bool} (h : ss.length = n) : sB n (posI ss) = ss := by
  refine List.ext_getElem (by rw [sB_len, h]) fun k h1 h2 => ?_
  have e0 : (sB n (posI ss))[k] = decide ((k : Int) ∈ posI ss) := by simp only [sB, List.getElem_map, List.getElem_range]
  rw [e0]
  have e : ss.getD k false = ss[k] := by rw [List.getD_eq_getElem?_getD, List.getElem?_eq_getElem h2]; rfl
  have : ((k : Int) ∈ posI ss) ↔ ss[k] = true := by
    rw [posI_mem, ← e]
    constructor
    · rintro ⟨i, e1, _, g⟩
      have : i = k := by omega
      rw [← this]; exact g
    · intro g; exact ⟨k, rfl, h2, g⟩
  cases c : ss[k] with
  | true => exact decide_eq_true (this.mpr c)
  | false => exact decide_eq_false fun z => by rw [this.mp z] at c; cases c
theorem posI_inj {xs ys : List Bool} (hl : xs.length = ys.length) (h : posI xs = posI ys) : xs = ys := by
  rw [← sB_posI (ss := xs) rfl, ← sB_posI (ss := ys) rfl, h, hl]
theorem posI_cnt : ∀ ss : List Bool, (posI ss).length = cntB ss := by
  have go : ∀ (ss : List Bool) (i : Nat), (posL id ss i).length = cntB ss := by
    intro ss
    induction ss with
    | nil => intro i; rfl
    | cons s ss ih =>
      intro i
      rw [cntB_cons]
      unfold posL
      cases s with
      | true =>
        show (i :: posL id ss (i + 1)).length = true.toNat + cntB ss
        rw [List.length_cons, ih]; simp; omega
      | false =>
        show (posL id ss (i + 1)).length = false.toNat + cntB ss
        rw [ih]; simp
  intro ss
  unfold posI
  rw [List.length_map, go]
theorem subsL_mem : ∀ (n : Nat) (s : List Int), s ∈ subsL n ↔ ∃ ss : List Bool, ss.length = n ∧ s = posI ss
  | 0, s => by
    constructor
    · intro h
      have e : s = [] := by simpa [subsL] using h
      exact ⟨[], rfl, e⟩
    · rintro ⟨ss, h, rfl⟩
      rw [List.length_eq_zero_iff.mp h]
      simp [subsL, posI, posL]
  | n + 1, s => by
    have ih := subsL_mem n
    rw [subsL, List.mem_append]
    constructor
    · rintro (h | h)
      · obtain ⟨ss, h1, rfl⟩ := (ih s).mp h
        exact ⟨ss ++ [false], by simp [h1], by rw [posI_snoc]; simp⟩
      · obtain ⟨u, hu, rfl⟩ := List.mem_map.mp h
        obtain ⟨ss, h1, rfl⟩ := (ih u).mp hu
        exact ⟨ss ++ [true], by simp [h1], by rw [posI_snoc, h1]; simp⟩
    · rintro ⟨ss, h, rfl⟩
      obtain ⟨ss, b, rfl, hl⟩ := snoc_of h
      rw [posI_snoc, hl]
      cases b with
      | false => left; simpa using (ih _).mpr ⟨ss, hl, rfl⟩
      | true => right; exact List.mem_map.mpr ⟨posI ss, (ih _).mpr ⟨ss, hl, rfl⟩, by simp⟩
theorem sets_mem {n m : Nat} {s : List Int} : s ∈ setsL n m ↔ ∃ ss : List Bool, ss.length = n ∧ cntB ss ≤ m ∧ s = posI ss := by
  unfold setsL
  rw [List.mem_filter, subsL_mem]
  constructor
  · rintro ⟨⟨ss, h1, rfl⟩, h2⟩
    exact ⟨ss, h1, by rw [← posI_cnt]; exact of_decide_eq_true h2, rfl⟩
  · rintro ⟨ss, h1, h2, rfl⟩
    exact ⟨⟨ss, h1, rfl⟩, decide_eq_true (by rw [posI_cnt]; exact h2)⟩
/-! ## what lives, both ways -/
theorem livR_rows {js : List Job} {sets : List (List Int)} : ∀ {k : Nat} {r : List Int}, r ∈ livR js sets k → r ∈ rowsR js ((spanN js : Int) - (k : Int))
  | 0, r, h => by simpa [livR] using h
  | k + 1, r, h => (List.mem_filter.mp h).1
theorem liv_big {js : List Job} {hs : List Nat} : ∀ {k a : Nat}, (livK js hs k).testBit a = true → a < 2 ^ js.length
  | 0, a, h => poss_big (doub_lt js _) h
  | k + 1, a, h => by
    unfold livK at h
    rw [Nat.testBit_and] at h
    exact poss_big (doub_lt js _) (Bool.and_eq_true_iff.mp h).2
theorem hands_getD {n : Nat} {js : List Job} {i : Nat} (h : i < spanN js) : (handsL n js).getD i 0 = n := by
  unfold handsL
  rw [List.getD_eq_getElem?_getD, List.getElem?_replicate, if_pos h]; rfl
theorem liv_bit {js : List Job} (G : Good 16 js) {n : Nat} {sets : List (List Int)} (hr : ∀ s, s ∈ sets ↔ s ∈ setsL js.length n) : ∀ k, k ≤ spanN js → ∀ bs : List Bool, bs.length = js.length →
    ((livK js (handsL n js) k).testBit (numB bs) = true ↔ (subB (dbB js ((spanN js : Int) - (k : Int))) bs = true ∧ rowB js ((spanN js : Int) - (k : Int)) bs ∈ livR js sets k)) := by
  have hl : (handsL n js).length = spanN js := List.length_replicate
  intro k
  induction k with
  | zero =>
    intro _ bs hb
    show (possN js.length (doubN js (handsL n js).length)).testBit (numB bs) = true ↔ _
    rw [hl, doub_B, poss_bit (dbB_len js _) hb]
    have e : ((spanN js : Int) - ((0 : Nat) : Int)) = (spanN js : Int) := by omega
    rw [e]
    refine ⟨fun h => ⟨h, ?_⟩, fun h => h.1⟩
    show rowB js (spanN js : Int) bs ∈ rowsR js (spanN js : Int)
    exact (rows_bits G).mpr ⟨bs, h, rfl⟩
  | succ k ih =>
    intro hk bs hb
    have ih := ih (by omega)
    have e : ((spanN js : Int) - ((k + 1 : Nat) : Int)) = ((spanN js - (k + 1) : Nat) : Int) := by omega
    have e1 : ((spanN js : Int) - (k : Int)) = ((spanN js - (k + 1) : Nat) : Int) + 1 := by omega
    rw [e1] at ih
    unfold livK livR
    rw [e, hl, hands_getD (by omega), Nat.testBit_and, doub_B, poss_bit (dbB_len js _) hb, Bool.and_eq_true_iff]
    generalize spanN js - (k + 1) = t at *
    have bb := before_bit (n := js.length) (after := livK js (handsL n js) k) (most := n) hb (grB_len js (t : Int)) (grow_B js t)
    unfold naL
    rw [bb, List.mem_filter]
    constructor
    · rintro ⟨⟨ss, cs, r, c, z⟩, d⟩
      obtain ⟨l1, l2, l3⟩ := relB_len r
      rw [grB_len] at l1 l2 l3
      obtain ⟨z1, z2⟩ := (ih cs l3).mp z
      refine ⟨d, (rows_bits G).mpr ⟨bs, d, rfl⟩, List.any_eq_true.mpr ⟨posI ss, (hr _).mpr (sets_mem.mpr ⟨ss, l2, c, rfl⟩), decide_eq_true ?_⟩⟩
      rw [plus_B, rowB_len hb, sB_posI l2, (add_rel (good_pos G) (good_le G) hb l2 l3).mpr r]
      exact z2
    · rintro ⟨d, _, z⟩
      refine ⟨?_, d⟩
      obtain ⟨s, hs, z⟩ := List.any_eq_true.mp z
      have z := of_decide_eq_true z
      obtain ⟨ss, l2, c, rfl⟩ := sets_mem.mp ((hr s).mp hs)
      have zr := livR_rows z
      rw [e1] at zr
      obtain ⟨cs, d2, e2⟩ := (rows_bits G).mp zr
      have l3 : cs.length = js.length := by rw [← subB_len d2, dbB_len]
      rw [plus_B, rowB_len hb, sB_posI l2] at e2 z
      refine ⟨ss, cs, (add_rel (good_pos G) (good_le G) hb l2 l3).mp e2, c, (ih cs l3).mpr ⟨d2, ?_⟩⟩
      rw [← e2]; exact z
theorem liv_zero {js : List Job} (G : Good 16 js) {n : Nat} {sets : List (List Int)} (hr : ∀ s, s ∈ sets ↔ s ∈ setsL js.length n) : livK js (handsL n js) (spanN js) = 0 ↔ livR js sets (spanN js) = [] := by
  have lb := liv_bit G hr (spanN js) (Nat.le_refl _)
  constructor
  · intro h
    refine List.eq_nil_iff_forall_not_mem.mpr fun r hmem => ?_
    obtain ⟨bs, d, rfl⟩ := (rows_bits G).mp (livR_rows hmem)
    have := (lb bs (by rw [← subB_len d, dbB_len])).mpr ⟨d, hmem⟩
    rw [h] at this
    simp at this
  · intro h
    refine Nat.eq_of_testBit_eq fun a => ?_
    rw [Nat.zero_testBit]
    cases c : (livK js (handsL n js) (spanN js)).testBit a with
    | false => rfl
    | true =>
      have ha := liv_big c
      rw [← bitsN_num ha] at c
      have := ((lb _ (bitsN_len _ _)).mp c).2
      rw [h] at this; cases this
theorem livL_bit {js : List Job} (G : Good 16 js) {n : Nat} {sets : List (List Int)} (hr : ∀ s, s ∈ sets ↔ s ∈ setsL js.length n) {m : Nat} (hm : m ≤ spanN js) {bs : List Bool} (hb : bs.length = js.length) :
    ((livL js (handsL n js)).getD m 0).testBit (numB bs) = true ↔ (subB (dbB js (m : Int)) bs = true ∧ rowB js (m : Int) bs ∈ (livJ js sets).getD m []) := by
  have hl : (handsL n js).length = spanN js := List.length_replicate
  unfold livL livJ
  rw [hl]
  by_cases c : livK js (handsL n js) (spanN js) = 0
  · rw [if_pos c, if_pos ((liv_zero G hr).mp c), List.getD_eq_getElem?_getD, List.getD_eq_getElem?_getD, List.getElem?_replicate, List.getElem?_replicate, if_pos (by omega), if_pos (by omega)]
    simp
  · rw [if_neg c, if_neg (fun z => c ((liv_zero G hr).mpr z))]
    unfold livT
    rw [List.getD_eq_getElem?_getD, List.getD_eq_getElem?_getD, List.getElem?_map, List.getElem?_map, List.getElem?_range (by omega)]
    have := liv_bit G hr (spanN js - m) (by omega) bs hb
    have e : ((spanN js : Int) - ((spanN js - m : Nat) : Int)) = (m : Int) := by omega
    rw [e] at this
    exact this
end Ts
namespace Ts
open PySem PySem.Spec PyProof.Rows L2
/-! ## choices: crews against sets -/
theorem numB_and : ∀ {xs ys : List Bool}, xs.length = ys.length → numB xs &&& numB ys = numB (List.zipWith (· && ·) xs ys) := by
  intro xs ys h
  refine Nat.eq_of_testBit_eq fun i => ?_
  rw [Nat.testBit_and, numB_bit, numB_bit, numB_bit]
  induction xs generalizing ys i with
  | nil => simp
  | cons x xs ih =>
    cases ys with
    | nil => cases h
    | cons y ys =>
      cases i with
      | zero => rfl
      | succ i => exact ih (by simpa using h) i
theorem numB_or : ∀ {xs ys : List Bool}, xs.length = ys.length → numB xs ||| numB ys = numB (List.zipWith (· || ·) xs ys) := by
  intro xs ys h
  refine Nat.eq_of_testBit_eq fun i => ?_
  rw [Nat.testBit_or, numB_bit, numB_bit, numB_bit]
  induction xs generalizing ys i with
  | nil => rw [← List.length_eq_zero_iff.mp h.symm]; simp
  | cons x xs ih =>
    cases ys with
    | nil => cases h
    | cons y ys =>
      cases i with
      | zero => rfl
      | succ i => exact ih (by simpa using h) i
/-- who must have a hand; whose number is free to grow -/
def ndB (gs as : List Bool) : List Bool := List.zipWith (fun g a => g && !a) gs as
def xoB (gs as : List Bool) : List Bool := List.zipWith (fun g a => g != a) gs as
theorem numB_split (f1 f2 f3 : Bool → Bool → Bool) (hf : ∀ a b, (f1 a b).toNat = (f2 a b).toNat + (f3 a b).toNat) : ∀ {xs ys : List Bool}, xs.length = ys.length → numB (List.zipWith f1 xs ys) = numB (List.zipWith f2 xs ys) + numB (List.zipWith f3 xs ys)
  | [], [], _ => rfl
  | x :: xs, y :: ys, h => by
    have ih := numB_split f1 f2 f3 hf (xs := xs) (ys := ys) (by simpa using h)
    have := hf x y
    show (f1 x y).toNat + 2 * numB (List.zipWith f1 xs ys) = (f2 x y).toNat + 2 * numB (List.zipWith f2 xs ys) + ((f3 x y).toNat + 2 * numB (List.zipWith f3 xs ys))
    omega
  | [], _ :: _, h => by cases h
  | _ :: _, [], h => by cases h
theorem zip_left : ∀ {xs ys : List Bool}, xs.length = ys.length → List.zipWith (fun a _ => a) xs ys = xs
  | [], [], _ => rfl
  | x :: xs, y :: ys, h => by
    show x :: List.zipWith (fun a _ => a) xs ys = x :: xs
    rw [zip_left (by simpa using h)]
  | [], _ :: _, h => by cases h
  | _ :: _, [], h => by cases h
theorem need_B {gs as : List Bool} (h : gs.length = as.length) : needN (numB gs) (numB as) = numB (ndB gs as) := by
  unfold needN
  rw [numB_and h]
  have := numB_split (fun a _ => a) (· && ·) (fun g a => g && !a) (by decide) h
  rw [zip_left h] at this
  unfold ndB
  omega
theorem xor_B {gs as : List Bool} (h : gs.length = as.length) : xorN (numB gs) (numB as) = numB (xoB gs as) := by
  unfold xorN
  rw [numB_and h, numB_or h]
  have := numB_split (· || ·) (· && ·) (fun g a => g != a) (by decide) h
  unfold xoB
  omega
theorem nd_len {gs as : List Bool} (h : gs.length = as.length) : (ndB gs as).length = gs.length := by unfold ndB; rw [List.length_zipWith, ← h, Nat.min_self]
theorem xo_len {gs as : List Bool} (h : gs.length = as.length) : (xoB gs as).length = gs.length := by unfold xoB; rw [List.length_zipWith, ← h, Nat.min_self]
theorem sizes_at : ∀ (n : Nat) (ps : List Bool), ps.length = n → (sizesN n).getD (numB ps) 0 = cntB ps
  | 0, ps, h => by
    rw [List.length_eq_zero_iff.mp h]; rfl
  | n + 1, ps, h => by
    obtain ⟨ps, p, rfl, hl⟩ := snoc_of h
    have ih := sizes_at n ps hl
    have lt : numB ps < 2 ^ n := by have := numB_lt ps; rwa [hl] at this
    have sl := sizes_len n
    have ec : cntB (ps ++ [p]) = cntB ps + p.toNat := by
      unfold cntB
      rw [List.filter_append, List.length_append]
      cases p <;> rfl
    rw [numB_snoc, ec, hl, sizesN]
    cases p with
    | false =>
      rw [show numB ps + 2 ^ n * false.toNat = numB ps by simp, List.getD_eq_getElem?_getD, List.getElem?_append_left (by omega), ← List.getD_eq_getElem?_getD, ih]; rfl
    | true =>
      rw [show numB ps + 2 ^ n * true.toNat = numB ps + 2 ^ n by simp, List.getD_eq_getElem?_getD, List.getElem?_append_right (by omega), sl, Nat.add_sub_cancel, List.getElem?_map, List.getElem?_eq_getElem (by omega)]
      rw [List.getD_eq_getElem?_getD, List.getElem?_eq_getElem (by omega)] at ih
      show (sizesN n)[numB ps] + 1 = cntB ps + 1
      rw [show (sizesN n)[numB ps] = cntB ps from ih]
theorem rel_num : ∀ {gs as ss bs : List Bool}, relB gs as ss bs → numB bs + numB gs = numB as + numB ss
  | [], [], [], [], _ => rfl
  | g :: gs, a :: as, s :: ss, b :: bs, h => by
    have ih := rel_num h.2
    have h1 := h.1
    show b.toNat + 2 * numB bs + (g.toNat + 2 * numB gs) = a.toNat + 2 * numB as + (s.toNat + 2 * numB ss)
    omega
  | [], [], [], _ :: _, h => h.elim
  | [], [], _ :: _, _, h => h.elim
  | [], _ :: _, _, _, h => h.elim
  | _ :: _, [], _, _, h => h.elim
  | _ :: _, _ :: _, [], _, h => h.elim
  | _ :: _, _ :: _, _ :: _, [], h => h.elim
/-- a crew: those that must, and some of those that may -/
theorem crew_of_rel : ∀ {gs as cs bs ds : List Bool}, relB gs as cs bs → subB ds bs = true →
    ∃ ps, subB (List.zipWith (fun d x => d && !x) ds (xoB gs as)) ps = true ∧ numB cs = numB (ndB gs as) + numB ps ∧ cntB cs = cntB (ndB gs as) + cntB ps
  | [], [], [], [], [], _, _ => ⟨[], rfl, rfl, rfl⟩
  | g :: gs, a :: as, c :: cs, b :: bs, d :: ds, h, hd => by
    obtain ⟨d1, d2⟩ := Bool.and_eq_true_iff.mp hd
    obtain ⟨ps, h1, h2, h3⟩ := crew_of_rel h.2 d2
    have h0 := h.1
    refine ⟨(c && !(g && !a)) :: ps, Bool.and_eq_true_iff.mpr ⟨?_, h1⟩, ?_, ?_⟩
    · show (!(c && !(g && !a)) || (d && !(g != a))) = true
      revert h0 d1
      cases g <;> cases a <;> cases c <;> cases b <;> cases d <;> simp
    · show c.toNat + 2 * numB cs = ((g && !a).toNat + 2 * numB (ndB gs as)) + ((c && !(g && !a)).toNat + 2 * numB ps)
      have : c.toNat = (g && !a).toNat + (c && !(g && !a)).toNat := by
        revert h0
        cases g <;> cases a <;> cases c <;> cases b <;> simp
      omega
    · show cntB (c :: cs) = cntB ((g && !a) :: ndB gs as) + cntB ((c && !(g && !a)) :: ps)
      rw [cntB_cons, cntB_cons, cntB_cons]
      have : c.toNat = (g && !a).toNat + (c && !(g && !a)).toNat := by
        revert h0
        cases g <;> cases a <;> cases c <;> cases b <;> simp
      omega
  | [], [], [], _ :: _, _, h, _ => h.elim
  | [], [], _ :: _, _, _, h, _ => h.elim
  | [], _ :: _, _, _, _, h, _ => h.elim
  | _ :: _, [], _, _, _, h, _ => h.elim
  | _ :: _, _ :: _, [], _, _, h, _ => h.elim
  | _ :: _, _ :: _, _ :: _, [], _, h, _ => h.elim
  | [], [], [], [], _ :: _, _, h => by cases h
  | _ :: _, _ :: _, _ :: _, _ :: _, [], _, h => by cases h
theorem rel_of_crew : ∀ {gs as ds ps : List Bool}, gs.length = as.length → ds.length = as.length → subB (List.zipWith (fun d x => d && !x) ds (xoB gs as)) ps = true →
    ∃ cs bs, relB gs as cs bs ∧ numB cs = numB (ndB gs as) + numB ps ∧ cntB cs = cntB (ndB gs as) + cntB ps
  | [], [], [], [], _, _, _ => ⟨[], [], trivial, rfl, rfl⟩
  | g :: gs, a :: as, d :: ds, p :: ps, h1, h2, h => by
    obtain ⟨q1, q2⟩ := Bool.and_eq_true_iff.mp h
    obtain ⟨cs, bs, r, e1, e2⟩ := rel_of_crew (gs := gs) (as := as) (ds := ds) (ps := ps) (by simpa using h1) (by simpa using h2) q2
    have key : ∃ c b : Bool, b.toNat + g.toNat = a.toNat + c.toNat ∧ c.toNat = (g && !a).toNat + p.toNat := by
      have q : (!p || (d && !(g != a))) = true := q1
      revert q
      cases g <;> cases a <;> cases p <;> cases d <;> simp
    obtain ⟨c, b, k1, k2⟩ := key
    refine ⟨c :: cs, b :: bs, ⟨k1, r⟩, ?_, ?_⟩
    · show c.toNat + 2 * numB cs = ((g && !a).toNat + 2 * numB (ndB gs as)) + (p.toNat + 2 * numB ps)
      omega
    · show cntB (c :: cs) = cntB ((g && !a) :: ndB gs as) + cntB (p :: ps)
      rw [cntB_cons, cntB_cons, cntB_cons]; omega
  | [], [], _ :: _, _, _, h, _ => by cases h
  | [], _ :: _, _, _, h, _, _ => by cases h
  | _ :: _, [], _, _, h, _, _ => by cases h
  | _ :: _, _ :: _, [], _, _, h, _ => by cases h
  | [], [], [], _ :: _, _, _, h => by cases h
  | _ :: _, _ :: _, _ :: _, [], _, _, h => by cases h
theorem bit_test (x c : Nat) : (x / 2 ^ c % 2 == 1) = x.testBit c := by
  rw [Nat.testBit_eq_decide_div_mod_eq]
  by_cases h : x / 2 ^ c % 2 = 1
  · rw [decide_eq_true h, h]; rfl
  · rw [decide_eq_false h]; simpa using h
theorem choice_iff {js : List Job} {n m c : Nat} {as : List Bool} (l6 : js.length ≤ 6) (hm : m < spanN js) (ha : as.length = js.length) (hd : ∀ bs : List Bool, bs.length = js.length → ((livL js (handsL n js)).getD (m + 1) 0).testBit (numB bs) = true → subB (dbB js ((m : Int) + 1)) bs = true) :
    c ∈ choicesN js (handsL n js) m (numB as) ↔ ∃ cs bs, c = numB cs ∧ relB (grB js (m : Int)) as cs bs ∧ cntB cs ≤ n ∧ ((livL js (handsL n js)).getD (m + 1) 0).testBit (numB bs) = true := by
  have hg : (grB js (m : Int)).length = as.length := by rw [grB_len, ha]
  have hdl : (dbB js ((m : Int) + 1)).length = as.length := by rw [dbB_len, ha]
  have e1 : ((m + 1 : Nat) : Int) = (m : Int) + 1 := by omega
  have enx : needN (numB (dbB js ((m : Int) + 1))) (numB (xoB (grB js (m : Int)) as)) = numB (List.zipWith (fun d x => d && !x) (dbB js ((m : Int) + 1)) (xoB (grB js (m : Int)) as)) := need_B (by rw [xo_len hg, grB_len, dbB_len])
  have lzd : (List.zipWith (fun d x => d && !x) (dbB js ((m : Int) + 1)) (xoB (grB js (m : Int)) as)).length = js.length := by rw [List.length_zipWith, xo_len hg, grB_len, dbB_len, Nat.min_self]
  unfold choicesN crewsN
  rw [List.mem_filter, doub_B, grow_B, e1, need_B hg, xor_B hg, enx, hands_getD hm, sizes_at _ _ ((nd_len hg).trans (grB_len _ _))]
  generalize (livL js (handsL n js)).getD (m + 1) 0 = lv at *
  rw [bit_test]
  constructor
  · rintro ⟨h1, h2⟩
    obtain ⟨p, hp, rfl⟩ := List.mem_map.mp h1
    obtain ⟨hp1, hp2⟩ := List.mem_filter.mp hp
    have zl : numB (List.zipWith (fun d x => d && !x) (dbB js ((m : Int) + 1)) (xoB (grB js (m : Int)) as)) < 2 ^ js.length := by
      have := numB_lt (List.zipWith (fun d x => d && !x) (dbB js ((m : Int) + 1)) (xoB (grB js (m : Int)) as))
      rwa [lzd] at this
    have pl := subs_lt js.length (subs_getD _ _ zl) hp1
    have ep := bitsN_num pl
    rw [← ep] at hp1 hp2
    have lb := bitsN_len js.length p
    have sub := (subs_mem js.length _ _ lzd lb).mp hp1
    obtain ⟨cs, bs, r, k1, k2⟩ := rel_of_crew hg hdl sub
    have c1 := of_decide_eq_true hp2
    rw [sizes_at _ _ lb] at c1
    have rn := rel_num r
    refine ⟨cs, bs, by rw [k1, ep], r, by omega, ?_⟩
    rw [show numB as + (numB (ndB (grB js (m : Int)) as) + p) - numB (grB js (m : Int)) = numB bs by rw [ep] at k1; omega] at h2
    exact h2
  · rintro ⟨cs, bs, rfl, r, c1, z⟩
    obtain ⟨l1, l2, l3⟩ := relB_len r
    rw [grB_len] at l2 l3
    obtain ⟨ps, k1, k2, k3⟩ := crew_of_rel r (hd bs l3 z)
    have lp : ps.length = js.length := by rw [← subB_len k1, lzd]
    have rn := rel_num r
    refine ⟨List.mem_map.mpr ⟨numB ps, List.mem_filter.mpr ⟨(subs_mem js.length _ _ lzd lp).mpr k1, decide_eq_true (by rw [sizes_at _ _ lp]; omega)⟩, k2.symm⟩, ?_⟩
    rw [show numB as + numB cs - numB (grB js (m : Int)) = numB bs by omega]
    exact z
/-! ### crews as rows -/
theorem members_few {c : Nat} (h : c < 64) : membersN c = (List.range 6).filter fun i => c.testBit i := by
  have go : ∀ c : Fin 64, membersN c.val = (List.range 6).filter fun i => c.val.testBit i := by decide +kernel
  exact go ⟨c, h⟩
theorem pos_filter : ∀ (ss : List Bool) (i : Nat), posL id ss i = (List.range' i ss.length).filter fun k => ss.getD (k - i) false
  | [], i => rfl
  | s :: ss, i => by
    have ih := pos_filter ss (i + 1)
    have e : (List.range' (i + 1) ss.length).filter (fun k => (s :: ss).getD (k - i) false) = (List.range' (i + 1) ss.length).filter fun k => ss.getD (k - (i + 1)) false := by
      refine List.filter_congr fun k hk => ?_
      have := (List.mem_range'_1.mp hk).1
      rw [show k - i = (k - (i + 1)) + 1 by omega]; rfl
    rw [List.length_cons, List.range'_succ, List.filter_cons, e, ← ih, Nat.sub_self]
    show (if id s = true then i :: posL id ss (i + 1) else posL id ss (i + 1)) = if (s :: ss).getD 0 false = true then i :: posL id ss (i + 1) else posL id ss (i + 1)
    rfl
theorem members_B {cs : List Bool} (h : cs.length ≤ 6) : (membersN (numB cs)).map (fun m : Nat => (m : Int)) = posI cs := by
  have lt : numB cs < 64 := Nat.lt_of_lt_of_le (numB_lt cs) (Nat.pow_le_pow_right (n := 2) (by decide) h)
  unfold posI
  rw [members_few lt, pos_filter]
  congr 1
  rw [show (6 : Nat) = cs.length + (6 - cs.length) by omega, List.range_eq_range', ← List.range'_append_1, List.filter_append]
  rw [show (List.range' (0 + cs.length) (6 - cs.length)).filter (fun i => (numB cs).testBit i) = [] from List.filter_eq_nil_iff.mpr fun k hk => by
    have := (List.mem_range'_1.mp hk).1
    rw [numB_bit, List.getD_eq_getElem?_getD, List.getElem?_eq_none (by omega)]
    simp]
  rw [List.append_nil]
  refine List.filter_congr fun k hk => ?_
  rw [numB_bit, Nat.sub_zero]
/-! ### sorted lists with the same members -/
theorem crews_asc {js : List Job} {hs : List Nat} {m a : Nat} : (crewsN js hs m a).Pairwise (· < ·) := by
  unfold crewsN
  refine List.pairwise_map.mpr (List.Pairwise.imp (fun {x y} z => Nat.add_lt_add_left z _) (List.Pairwise.filter _ (subs_asc js.length _ (subs_getD _ _ ?_))))
  exact Nat.lt_of_le_of_lt (need_le _ _) (doub_lt js (m + 1))
/-! ### one tick of the law's own walk -/
theorem livJ_step {js : List Job} {sets : List (List Int)} {m : Nat} (hm : m < spanN js) {r : List Int} (hr : r ∈ rowsR js (m : Int)) :
    decide (r ∈ (livJ js sets).getD m []) = sets.any fun s => decide (plusR r s ∈ (livJ js sets).getD (m + 1) []) := by
  unfold livJ
  by_cases c : livR js sets (spanN js) = []
  · rw [if_pos c]
    have z : ∀ i, (List.replicate (spanN js + 1) ([] : List (List Int))).getD i [] = [] := fun i => by
      rw [List.getD_eq_getElem?_getD, List.getElem?_replicate]
      split <;> rfl
    rw [z, z]
    simp
  · rw [if_neg c]
    unfold livT
    have z : ∀ i, i ≤ spanN js → ((List.range (spanN js + 1)).map fun m => livR js sets (spanN js - m)).getD i [] = livR js sets (spanN js - i) := fun i hi => by
      rw [List.getD_eq_getElem?_getD, List.getElem?_map, List.getElem?_range (by omega)]; rfl
    rw [z m (by omega), z (m + 1) (by omega), show spanN js - m = spanN js - (m + 1) + 1 by omega, livR_succ]
    have e : ((spanN js : Int) - ((spanN js - (m + 1) + 1 : Nat) : Int)) = (m : Int) := by omega
    rw [e]
    unfold goB
    cases g : sets.any fun s => decide (plusR r s ∈ livR js sets (spanN js - (m + 1))) with
    | true => exact decide_eq_true (List.mem_filter.mpr ⟨hr, g⟩)
    | false => exact decide_eq_false fun y => by rw [(List.mem_filter.mp y).2] at g; cases g
theorem LivAll.get {H : Hp} {vs : List V} {rs : List (List (List Int))} (h : LivAll H vs rs) : ∀ {i : Nat} {rows : List (List Int)}, rs[i]? = some rows → ∃ a, vs[i]? = some (.ref a) ∧ H a = some (.dT (rowsK rows)) := by
  induction h with
  | nil => intro i rows e; simp at e
  | cons a _ ih =>
    intro i rows e
    cases i with
    | zero => obtain ⟨x, rfl, g⟩ := a; cases e; exact ⟨x, rfl, g⟩
    | succ i => exact ih (by simpa using e)
theorem eqv_rowsT (rows : List (List Int)) : (PyData.tuple (rows.map rowD)).eqv (.tuple []) = rows.isEmpty := by cases rows <;> rfl
end Ts
namespace Ts
open PySem PySem.Spec PyProof.Rows L2
/-! ## what is alive, both ways -/
theorem filter_all {α : Type} (l : List α) : l.filter (fun _ => true) = l := List.filter_eq_self.mpr fun _ _ => rfl
theorem livJ_filter {js : List Job} {sets : List (List Int)} {m : Nat} (hm : m ≤ spanN js) : ∃ p, (livJ js sets).getD m [] = (rowsR js (m : Int)).filter p := by
  unfold livJ
  split
  · refine ⟨fun _ => false, ?_⟩
    rw [List.getD_eq_getElem?_getD, List.getElem?_replicate, if_pos (by omega)]
    simp
  · unfold livT
    rw [List.getD_eq_getElem?_getD, List.getElem?_map, List.getElem?_range (by omega)]
    show ∃ p, livR js sets (spanN js - m) = _
    cases h : spanN js - m with
    | zero =>
      refine ⟨fun _ => true, ?_⟩
      rw [show (m : Int) = (spanN js : Int) by omega, filter_all]; rfl
    | succ k => exact ⟨goB js sets k, by rw [livR_succ, show ((spanN js : Int) - ((k + 1 : Nat) : Int)) = (m : Int) by omega]⟩
end Ts
namespace Ts
open PySem PySem.Spec PyProof.Rows L2
/-! ## ways through the round -/
def wayN (js : List Job) (hs : List Nat) : Nat → Nat → Nat
  | 0, _ => 1
  | k + 1, a => ((choicesN js hs (hs.length - (k + 1)) a).map fun c => wayN js hs k (a + c - growN js (hs.length - (k + 1)))).sum
def keysW (js : List Job) (hs : List Nat) : Nat → List Nat
  | 0 => if aliveB js hs 0 0 = true then [0] else []
  | k + 1 => ((subsN js.length).getD (doubN js (hs.length - (k + 1))) []).filter (aliveB js hs (hs.length - (k + 1)))
/-- each choice: hands as a row of truths, and who is ahead behind it -/
theorem choice_bits {js : List Job} (G : Good 16 js) (l6 : js.length ≤ 6) {n m : Nat} (hm : m < spanN js) {as : List Bool} (la : as.length = js.length) {sets : List (List Int)} (mem : ∀ s, s ∈ sets ↔ s ∈ setsL js.length n) {c : Nat} :
    c ∈ choicesN js (handsL n js) m (numB as) ↔ ∃ cs bs, c = numB cs ∧ cs.length = js.length ∧ bs.length = js.length ∧ relB (grB js (m : Int)) as cs bs ∧ cntB cs ≤ n ∧ subB (dbB js ((m : Int) + 1)) bs = true ∧ rowB js ((m : Int) + 1) bs ∈ (livJ js sets).getD (m + 1) [] := by
  have lb := fun (bs : List Bool) (hb : bs.length = js.length) => livL_bit G mem (m := m + 1) (by omega) hb
  have e1 : ((m + 1 : Nat) : Int) = (m : Int) + 1 := by omega
  rw [e1] at lb
  have ci := choice_iff (n := n) (m := m) (c := c) (as := as) l6 hm la fun bs hb z => ((lb bs hb).mp z).1
  rw [ci]
  constructor
  · rintro ⟨cs, bs, e, r1, c1, z⟩
    obtain ⟨_, l2, l3⟩ := relB_len r1
    rw [grB_len] at l2 l3
    exact ⟨cs, bs, e, l2, l3, r1, c1, (lb bs l3).mp z⟩
  · rintro ⟨cs, bs, e, l2, l3, r1, c1, z⟩
    exact ⟨cs, bs, e, r1, c1, (lb bs l3).mpr z⟩
theorem choices_perm {js : List Job} (G : Good 16 js) (l6 : js.length ≤ 6) {n m : Nat} (hm : m < spanN js) {as : List Bool} (la : as.length = js.length) {sets : List (List Int)} (nd : sets.Nodup) (mem : ∀ s, s ∈ sets ↔ s ∈ setsL js.length n) :
    (crewRows (choicesN js (handsL n js) m (numB as))).Perm (sets.filter fun s => decide (plusR (rowB js (m : Int) as) s ∈ (livJ js sets).getD (m + 1) [])) := by
  have cb := fun c => choice_bits G l6 hm la mem (c := c)
  refine (List.perm_ext_iff_of_nodup ?_ (List.Pairwise.filter _ nd)).mpr fun s => ?_
  · unfold crewRows
    have asc : (choicesN js (handsL n js) m (numB as)).Pairwise (· < ·) := List.Pairwise.filter _ crews_asc
    refine List.pairwise_map.mpr (List.Pairwise.imp_of_mem (fun {x y} hx hy z e => ?_) asc)
    obtain ⟨cs, bs, rfl, g1, _⟩ := (cb x).mp hx
    obtain ⟨cs2, bs2, rfl, g2, _⟩ := (cb y).mp hy
    rw [members_B (by omega), members_B (by omega)] at e
    have := posI_inj (g1.trans g2.symm) e
    subst this
    omega
  · rw [List.mem_filter, mem, sets_mem]
    unfold crewRows
    rw [List.mem_map]
    constructor
    · rintro ⟨c, hc, rfl⟩
      obtain ⟨cs, bs, rfl, g1, g2, r1, c1, _, z⟩ := (cb c).mp hc
      rw [members_B (by omega)]
      refine ⟨⟨cs, g1, c1, rfl⟩, decide_eq_true ?_⟩
      rw [plus_B, rowB_len la, sB_posI g1, (add_rel (good_pos G) (good_le G) la g1 g2).mpr r1]
      exact z
    · rintro ⟨⟨ss, g1, c1, rfl⟩, z⟩
      have z := of_decide_eq_true z
      rw [plus_B, rowB_len la, sB_posI g1] at z
      obtain ⟨p, hp⟩ := livJ_filter (js := js) (sets := sets) (m := m + 1) (by omega)
      have hrow : addB (rowB js (m : Int) as) ss ∈ rowsR js ((m : Int) + 1) := by
        rw [hp] at z
        have := (List.mem_filter.mp z).1
        rwa [show ((m + 1 : Nat) : Int) = (m : Int) + 1 by omega] at this
      obtain ⟨bs, d2, e2⟩ := (rows_bits G).mp hrow
      have g2 : bs.length = js.length := by rw [← subB_len d2, dbB_len]
      have r1 := (add_rel (good_pos G) (good_le G) la g1 g2).mp e2
      rw [e2] at z
      exact ⟨numB ss, (cb _).mpr ⟨ss, bs, rfl, g1, g2, r1, c1, d2, z⟩, members_B (by omega)⟩
end Ts
namespace Ts
open PySem PySem.Spec PyProof.Rows L2
/-! ## dicts of who is ahead, and in how many ways one goes on -/
def natK (f : Nat → Nat) (as : List Nat) : List (L2.Key × V) := as.map fun a : Nat => (Sum.inl (a : Int), V.int (f a : Int))
def waysK (js : List Job) (hs : List Nat) (k : Nat) : List (L2.Key × V) := natK (wayN js hs k) (keysW js hs k)
/-- from the end of the round: the i-th one holds for i ticks ahead of it -/
def WaysTo (H : Hp) (js : List Job) (hs : List Nat) (vs : List V) (k : Nat) : Prop := vs.length = k + 1 ∧ ∀ i, i ≤ k → ∃ d, vs[i]? = some (.ref d) ∧ H d = some (.dK (waysK js hs i))
theorem WaysTo.mono {H H' : Hp} {js : List Job} {hs : List Nat} {vs : List V} {k : Nat} (h : WaysTo H js hs vs k) (s : Same H H') : WaysTo H' js hs vs k := ⟨h.1, fun i hi => let ⟨d, e1, e2⟩ := h.2 i hi; ⟨d, e1, s _ _ e2⟩⟩
theorem WaysTo.snoc {H : Hp} {js : List Job} {hs : List Nat} {vs : List V} {k : Nat} {d : Addr} (h : WaysTo H js hs vs k) (g : H d = some (.dK (waysK js hs (k + 1)))) : WaysTo H js hs (vs ++ [.ref d]) (k + 1) := by
  refine ⟨by rw [List.length_append, h.1]; rfl, fun i hi => ?_⟩
  by_cases c : i ≤ k
  · obtain ⟨d2, e1, e2⟩ := h.2 i c
    exact ⟨d2, by rw [List.getElem?_append_left (by rw [h.1]; omega)]; exact e1, e2⟩
  · have : i = k + 1 := by omega
    subst this
    exact ⟨d, by rw [List.getElem?_append_right (by rw [h.1]; omega), h.1, Nat.sub_self]; rfl, g⟩
/-! ## the law's own count -/
/-- pairs (row, number) of a list -/
inductive PairN (f : List Int → Nat) (H : Hp) : List Addr → List (List L2.Key × Addr × V) → List (List Int) → Prop
  | nil : PairN f H [] [] []
  | cons {p a : Addr} {r : List Int} {ps : List Addr} {qs : List (List L2.Key × Addr × V)} {rows : List (List Int)} (h : H p = some (.tup [.ref a, .int (f r : Int)])) (g : H a = some (.tup (r.map V.int))) (t : PairN f H ps qs rows) : PairN f H (p :: ps) ((keyR r, a, .int (f r : Int)) :: qs) (r :: rows)
theorem PairN.mono {f : List Int → Nat} {H H' : Hp} {ps : List Addr} {qs : List (List L2.Key × Addr × V)} {rows : List (List Int)} (h : PairN f H ps qs rows) (s : Same H H') : PairN f H' ps qs rows := by
  induction h with
  | nil => exact .nil
  | cons a b _ ih => exact .cons (s _ _ a) (s _ _ b) ih
theorem PairN.snoc {f : List Int → Nat} {H : Hp} {ps : List Addr} {qs : List (List L2.Key × Addr × V)} {rows : List (List Int)} {p a : Addr} {r : List Int} (h : PairN f H ps qs rows) (e : H p = some (.tup [.ref a, .int (f r : Int)])) (g : H a = some (.tup (r.map V.int))) :
    PairN f H (ps ++ [p]) (qs ++ [(keyR r, a, .int (f r : Int))]) (rows ++ [r]) := by
  induction h with
  | nil => exact .cons e g .nil
  | cons a b _ ih => exact .cons a b ih
end Ts
namespace Ts
open PySem PySem.Spec PyProof.Rows L2
/-! ## any way through the round, and that it is a right table -/
def anyN (js : List Job) (hs : List Nat) : Nat → Nat → Nat → List Nat
  | 0, _, _ => []
  | k + 1, m, a => (choicesN js hs m a).headD 0 :: anyN js hs k (m + 1) (a + (choicesN js hs m a).headD 0 - growN js m)
theorem any_some {js : List Job} (G : Good 16 js) (l6 : js.length ≤ 6) {n m : Nat} (hm : m < spanN js) {as : List Bool} (la : as.length = js.length) (d : subB (dbB js (m : Int)) as = true) {sets : List (List Int)} (nd : sets.Nodup) (mem : ∀ s, s ∈ sets ↔ s ∈ setsL js.length n)
    (h : rowB js (m : Int) as ∈ (livJ js sets).getD m []) : (choicesN js (handsL n js) m (numB as)).headD 0 ∈ choicesN js (handsL n js) m (numB as) := by
  have hr : rowB js (m : Int) as ∈ rowsR js (m : Int) := (rows_bits G).mpr ⟨as, d, rfl⟩
  have st := livJ_step hm hr (sets := sets)
  rw [decide_eq_true h] at st
  obtain ⟨s, hs, z⟩ := List.any_eq_true.mp st.symm
  have hmem : s ∈ sets.filter (fun s => decide (plusR (rowB js (m : Int) as) s ∈ (livJ js sets).getD (m + 1) [])) := List.mem_filter.mpr ⟨hs, z⟩
  have := (choices_perm G l6 hm la nd mem).mem_iff.mpr hmem
  obtain ⟨c, hc, _⟩ := List.mem_map.mp this
  cases e : choicesN js (handsL n js) m (numB as) with
  | nil => rw [e] at hc; cases hc
  | cons x l => exact List.mem_cons_self
def rowOf (c : Nat) : List Int := (membersN c).map fun m : Nat => (m : Int)
/-- the table that comes about -/
def tabR (js : List Job) (n : Nat) : List (List Int) := (anyN js (handsL n js) (spanN js) 0 0).map rowOf
/-! ## the checker's own look finds it right -/
theorem inc_get (had : List Int) (k i : Nat) : (inc1 had k).getD i 0 = had.getD i 0 + if i = k ∧ k < had.length then 1 else 0 := by
  unfold inc1
  rw [List.getD_eq_getElem?_getD, List.getElem?_set, List.getD_eq_getElem?_getD, List.getD_eq_getElem?_getD]
  by_cases e : k = i
  · subst e
    by_cases c : k < had.length
    · rw [if_pos rfl, if_pos c, if_pos ⟨rfl, c⟩]; rfl
    · rw [if_pos rfl, if_neg c, if_neg (fun z => c z.2), List.getElem?_eq_none (by omega)]; rfl
  · rw [if_neg e, if_neg (fun z => e z.1.symm)]; simp
theorem incAll_get : ∀ (os : List Nat) (had : List Int) (i : Nat), os.Nodup → (∀ o ∈ os, o < had.length) → (incAll had (os.map fun o : Nat => some (o : Int))).getD i 0 = had.getD i 0 + if i ∈ os then 1 else 0
  | [], had, i, _, _ => by simp [incAll]
  | o :: os, had, i, nd, h => by
    obtain ⟨n1, n2⟩ := List.nodup_cons.mp nd
    have ih := incAll_get os (inc1 had o) i n2 fun q hq => by rw [inc1_len]; exact h q (List.mem_cons_of_mem _ hq)
    show (incAll (inc1 had (o : Int).toNat) (os.map fun o : Nat => some (o : Int))).getD i 0 = _
    rw [Int.toNat_natCast, ih, inc_get]
    have ho := h o List.mem_cons_self
    by_cases c : i = o
    · subst c
      rw [if_pos ⟨rfl, ho⟩, if_neg n1, if_pos List.mem_cons_self]; omega
    · rw [if_neg (fun z => c z.1)]
      by_cases d : i ∈ os
      · rw [if_pos d, if_pos (List.mem_cons_of_mem _ d)]; omega
      · rw [if_neg d, if_neg (fun z => (List.mem_cons.mp z).elim c d)]; omega
/-! ## what is asked -/
/-- a table, or none -/
def TabV (H : Hp) (js : List Job) (n : Nat) (v : V) : Prop := (aliveB js (handsL n js) 0 0 = false ∧ v = .non) ∨ (aliveB js (handsL n js) 0 0 = true ∧ ∃ (p : Addr) (us : List V), v = .ref p ∧ H p = some (.tup us) ∧ RowT H us (tabR js n))
theorem TabV.mono {H H' : Hp} {js : List Job} {n : Nat} {v : V} (h : TabV H js n v) (s : Same H H') : TabV H' js n v := by
  rcases h with h | ⟨h, p, us, e, a, r⟩
  · exact .inl h
  · exact .inr ⟨h, p, us, e, s _ _ a, r.mono s⟩
/-! ## step by step -/
/-! ## the law's own look at a table -/
end Ts
namespace Ts
open PySem PySem.Spec PyProof.Rows L2 L2H LamX
/-- an ascending row of works: what is had goes on as the checker reckons it -/
theorem plus_asc70 {us : List Nat} {had : List Int} (ha : us.Pairwise (· < ·)) (hl : ∀ u ∈ us, u < had.length) : incAll had (us.map fun u : Nat => some (u : Int)) = plusR had (us.map fun u : Nat => (u : Int)) := by
  refine List.ext_getElem (by rw [incAll_len]; simp [plusR]) fun i h1 h2 => ?_
  have g := incAll_get us had i (ha.imp fun {a b} z e => by omega) hl
  have e1 : (incAll had (us.map fun u : Nat => some (u : Int))).getD i 0 = (incAll had (us.map fun u : Nat => some (u : Int)))[i] := by rw [List.getD_eq_getElem?_getD, List.getElem?_eq_getElem h1]; rfl
  have e2 : (plusR had (us.map fun u : Nat => (u : Int)))[i] = had.getD i 0 + (if ((i : Int) ∈ us.map fun u : Nat => (u : Int)) then 1 else 0) := by simp only [plusR, List.getElem_map, List.getElem_range]
  rw [← e1, g, e2]
  congr 1
  have : (i : Int) ∈ us.map (fun u : Nat => (u : Int)) ↔ i ∈ us := by
    rw [List.mem_map]
    exact ⟨fun ⟨m, hm, z⟩ => by rw [show i = m by omega]; exact hm, fun z => ⟨i, z, rfl⟩⟩
  by_cases c : i ∈ us
  · rw [if_pos c, if_pos (this.mpr c)]
  · rw [if_neg c, if_neg (fun z => c (this.mp z))]
/-- ascending from some number on, below another one -/
theorem ascB_iff70 {many : Int} : ∀ (ms : List Int) (least : Int), ascB many (ms.map some) least = true ↔ (∀ m ∈ ms, least ≤ m ∧ m < many) ∧ ms.Pairwise (· < ·)
  | [], _ => ⟨fun _ => ⟨fun m h => (by cases h), List.Pairwise.nil⟩, fun _ => rfl⟩
  | m :: ms, least => by
    have ih := ascB_iff70 (many := many) ms (m + 1)
    show (decide (least ≤ m ∧ m ≤ many - 1) && ascB many (ms.map some) (m + 1)) = true ↔ _
    rw [Bool.and_eq_true, decide_eq_true_iff, ih]
    constructor
    · rintro ⟨⟨h1, h2⟩, h3, h4⟩
      refine ⟨fun x hx => ?_, List.pairwise_cons.mpr ⟨fun x hx => by have := h3 x hx; omega, h4⟩⟩
      rcases List.mem_cons.mp hx with rfl | z
      · exact ⟨h1, by omega⟩
      · have := h3 x z; omega
    · rintro ⟨h1, h2⟩
      obtain ⟨h3, h4⟩ := List.pairwise_cons.mp h2
      have h5 := h1 m List.mem_cons_self
      exact ⟨⟨h5.1, by omega⟩, fun x hx => ⟨by have := h3 x hx; omega, (h1 x (List.mem_cons_of_mem _ hx)).2⟩, h4⟩
theorem things_ints70 {K : PySem.W.Frag} {H : Hp} {xs : List V} {ms : List Int} (l : xs.length = (ms.map some).length) (h : ∀ (i : Nat) (x : V) (o : Option Int), xs[i]? = some x → (ms.map some)[i]? = some o → KindV K H x o) : xs = ms.map V.int := by
  rw [List.length_map] at l
  refine List.ext_getElem? fun i => ?_
  rw [List.getElem?_map]
  cases e : ms[i]? with
  | none => rw [List.getElem?_eq_none (by rw [l]; exact List.getElem?_eq_none_iff.mp e)]; rfl
  | some m =>
    have li := (List.getElem?_eq_some_iff.mp e).1
    have k := h i xs[i] (some m) (List.getElem?_eq_getElem (by omega)) (by rw [List.getElem?_map, e]; rfl)
    rw [List.getElem?_eq_getElem (show i < xs.length by omega)]
    exact congrArg some k
/-- the walk of keepsB from a tick on -/
theorem keepsGo_drop70 {js : List Job} {cs : List Int} {rs : List (Option (List (Option Int)))} {m : Nat} {r : Option (List (Option Int))} {had : List Int} (h : rs[m]? = some r) : keepsGo js cs (rs.drop m) m had = (membersB (js.length : Int) (cs.getD m 0) r && (keptAll js ((m : Int) + 1) (incAll had (r.getD [])) && keepsGo js cs (rs.drop (m + 1)) (m + 1) (incAll had (r.getD [])))) := by
  obtain ⟨hm, e⟩ := List.getElem?_eq_some_iff.mp h
  rw [List.drop_eq_getElem_cons hm, e]; rfl
end Ts
namespace Ts
open PySem PySem.Spec PyProof.Rows L2 L2H LamX
theorem ascB_out70 {many : Int} : ∀ {os : List (Option Int)} {least : Int}, 0 ≤ least → (os.all fun o => inRg o 0 (many - 1)) = false → ascB many os least = false
  | [], _, _, h => by cases h
  | o :: os, least, h0, h => by
    show (inRg o least (many - 1) && ascB many os (o.getD 0 + 1)) = false
    cases e : inRg o least (many - 1) with
    | false => rfl
    | true =>
      rw [Bool.true_and]
      cases o with
      | none => cases e
      | some m =>
        have hm : least ≤ m ∧ m ≤ many - 1 := of_decide_eq_true e
        rw [List.all_cons, show inRg (some m) 0 (many - 1) = true from decide_eq_true ⟨by omega, hm.2⟩, Bool.true_and] at h
        exact ascB_out70 (show 0 ≤ m + 1 by omega) h
theorem ints_rg70 {many : Int} {os : List (Option Int)} (h : (os.all fun o => inRg o 0 (many - 1)) = true) : ∃ us : List Nat, os = us.map (fun u : Nat => some (u : Int)) ∧ ∀ u ∈ us, (u : Int) < many := by
  induction os with
  | nil => exact ⟨[], rfl, fun u hu => by cases hu⟩
  | cons o os ih =>
    rw [List.all_cons, Bool.and_eq_true] at h
    obtain ⟨us, e, hu⟩ := ih h.2
    cases o with
    | none => cases h.1
    | some m =>
      have hm : 0 ≤ m ∧ m ≤ many - 1 := of_decide_eq_true h.1
      refine ⟨m.toNat :: us, by rw [e, List.map_cons, Int.toNat_of_nonneg hm.1], fun u h => ?_⟩
      rcases List.mem_cons.mp h with rfl | z
      · rw [Int.toNat_of_nonneg hm.1]; omega
      · exact hu u z
end Ts
namespace Ts
open PySem PySem.Spec PyProof.Rows L2
/-! ## walks whose hands differ from tick to tick -/
/-- a tick: who is ahead before it, who gets hands, who is ahead behind it -/
def StepB (js : List Job) (hs : List Nat) (m : Nat) (as cs bs : List Bool) : Prop := relB (grB js (m : Int)) as cs bs ∧ cntB cs ≤ hs.getD m 0 ∧ subB (dbB js ((m : Int) + 1)) bs = true
def Reach (js : List Job) (hs : List Nat) : Nat → List Bool → Prop
  | 0, as => as = List.replicate js.length false
  | m + 1, bs => ∃ as cs, Reach js hs m as ∧ StepB js hs m as cs bs
theorem StepB.len {js : List Job} {hs : List Nat} {m : Nat} {as cs bs : List Bool} (h : StepB js hs m as cs bs) : as.length = js.length ∧ cs.length = js.length ∧ bs.length = js.length := by
  have := relB_len h.1
  rw [grB_len] at this; exact this
theorem Reach.len {js : List Job} {hs : List Nat} : ∀ {m : Nat} {as : List Bool}, Reach js hs m as → as.length = js.length
  | 0, as, h => by rw [show as = _ from h]; exact List.length_replicate
  | m + 1, bs, ⟨as, cs, _, st⟩ => st.len.2.2
/-- a plan -/
def planR (js : List Job) (hs : List Nat) : List (List Int) := (anyN js hs hs.length 0 0).map rowOf
end Ts
namespace Ts
open PySem PySem.Spec PyProof.Rows L2
/-! ## what one can come to, layer by layer -/
/-- a layer: each that can be come to, once -/
def LayOk (js : List Job) (hs : List Nat) (m : Nat) (as : List Nat) : Prop := as.Nodup ∧ ∀ x, x ∈ as ↔ ∃ bs, Reach js hs m bs ∧ x = numB bs
theorem LayOk.lt {js : List Job} {hs : List Nat} {m : Nat} {as : List Nat} (h : LayOk js hs m as) {x : Nat} (hx : x ∈ as) : x < 2 ^ js.length := by
  obtain ⟨bs, r, rfl⟩ := (h.2 x).mp hx
  have := numB_lt bs
  rwa [r.len] at this
theorem nodup_len : ∀ {b : Nat} {l : List Nat}, l.Nodup → (∀ x ∈ l, x < b) → l.length ≤ b
  | 0, l, _, hb => by
    cases l with
    | nil => exact Nat.le_refl _
    | cons x l => exact absurd (hb x List.mem_cons_self) (by omega)
  | b + 1, l, h, hb => by
    have ih := nodup_len (b := b) (l := l.erase b) (h.erase b) fun x hx => by
      have h1 := hb x (List.mem_of_mem_erase hx)
      have h2 : x ≠ b := fun e => by
        subst e
        exact (List.Nodup.not_mem_erase h) hx
      omega
    have := List.length_erase_of_mem (a := b) (l := l)
    by_cases c : b ∈ l
    · have := this c; omega
    · rw [List.erase_of_not_mem c] at ih; omega
theorem LayOk.len {js : List Job} {hs : List Nat} {m : Nat} {as : List Nat} (h : LayOk js hs m as) (l6 : js.length ≤ 6) : as.length ≤ 64 :=
  Nat.le_trans (nodup_len h.1 fun x hx => h.lt hx) (Nat.le_trans (Nat.pow_le_pow_right (by decide) l6) (by decide))
/-! ## what is asked -/
/-- layers in a row: the i-th one is a tuple with something in it just if one can come so far -/
def LaysAt (K : PySem.W.Frag) (H : Hp) (js : List Job) (hs : List Nat) (us : List V) : Prop := ∀ i, i < us.length → ∃ (q : Addr) (ws : List V), us[i]? = some (.ref q) ∧ SqT K H q ws ∧ (ws = [] ↔ ∀ bs, ¬ Reach js hs i bs)
theorem LaysAt.mono {K : PySem.W.Frag} {H H' : Hp} {js : List Job} {hs : List Nat} {us : List V} (h : LaysAt K H js hs us) (s : Same H H') : LaysAt K H' js hs us := fun i hi => let ⟨q, ws, e1, e2, e3⟩ := h i hi; ⟨q, ws, e1, sameT s e2, e3⟩
/-- a plan, or none -/
def PlanV (H : Hp) (js : List Job) (hs : List Nat) (v : V) : Prop := (aliveB js hs 0 0 = false ∧ v = .non) ∨ (aliveB js hs 0 0 = true ∧ ∃ (p : Addr) (us : List V), v = .ref p ∧ H p = some (.tup us) ∧ RowT H us (planR js hs))
theorem PlanV.mono {H H' : Hp} {js : List Job} {hs : List Nat} {v : V} (h : PlanV H js hs v) (s : Same H H') : PlanV H' js hs v := by
  rcases h with h | ⟨h, p, us, e, a, r⟩
  · exact .inl h
  · exact .inr ⟨h, p, us, e, s _ _ a, r.mono s⟩
end Ts
namespace Ts
open PySem PySem.Spec PyProof.Rows L2 L2H LamX
/-! ## plans as the checker takes them -/
/-- a turn of the law for plans -/
def spRight70 : Sp := fun vs H Q _ => ∃ b : Addr, vs = [.ref b] ∧ Bag H b ∧ ∀ H', But b H H' → Bag H' b → Q (.bl true) H'
end Ts
namespace Ts
open PySem PySem.Spec PyProof.Rows L2 L2H LamX
/-! ## tables as the checker takes them -/
/-- a text of a lot, perhaps of a round that is too long -/
def spLotOfX (K : PySem.W.Frag) (C CY : Addr) : Sp := fun vs H Q E => ∃ (n : Nat) (js : List Job), vs = [.str (pageS n js)] ∧ 1 ≤ n ∧ n ≤ 6 ∧ Good 16 js ∧ 0 < js.length ∧ js.length ≤ 6 ∧ (spanN js ≤ 720 → newLot K C H Q n js) ∧ (720 < spanN js → Raise1 CY "limit" (.int 720) H E)
def spHasTableX (K : PySem.W.Frag) (CY : Addr) : Sp := fun vs H Q E => ∃ (vc : V) (n : Nat) (js : List Job) (tt : TabT), vs = [vc, .str (pageS n js)] ∧ 1 ≤ n ∧ n ≤ 6 ∧ Good 16 js ∧ 0 < js.length ∧ js.length ≤ 6 ∧ TabP K H vc tt ∧
  (spanN js ≤ 720 → ∀ H', Same H H' → Q (.bl (keepsB js (List.replicate (spanN js) (n : Int)) tt)) H') ∧ (720 < spanN js → Raise1 CY "limit" (.int 720) H E)
def fitsN (n : Nat) (js : List Job) : Bool := decide ((totTop js : Int) ≤ (n : Int) * (totBot js : Int))
def spHasNoTableX (K : PySem.W.Frag) (CY : Addr) : Sp := fun vs H Q E => ∃ (vc : V) (n : Nat) (js : List Job) (em : Bool), vs = [vc, .str (pageS n js)] ∧ 1 ≤ n ∧ n ≤ 6 ∧ Good 16 js ∧ 0 < js.length ∧ js.length ≤ 6 ∧ CertV K H vc em ∧
  (em = false → Q (.bl false) H) ∧ (em = true → spanN js ≤ 720 → ∀ H', Same H H' → Q (.bl (!fitsN n js)) H') ∧ (em = true → 720 < spanN js → Raise1 CY "limit" (.int 720) H E)
/-- what the answers are, asked in these ways -/
def SayFits (K : PySem.W.Frag) (spA : Sp) : Prop := ∀ {q : Addr} {H : Hp} {vc : V} {n : Nat} {js : List Job} {tt : TabT} {d : Bool}, SqT K H q [.str "fits", .str (pageS n js)] → 1 ≤ n → n ≤ 6 → Good 16 js → 0 < js.length → js.length ≤ 6 → TabP K H vc tt →
  (spanN js ≤ 720 → keepsB js (List.replicate (spanN js) (n : Int)) tt = d) → (720 < spanN js → d = false) → ∀ H', Same H H' → ∀ (Q : VK) (E : XK), (∀ H'', Same H' H'' → Q (.bl d) H'') → spA [.ref q, vc] H' Q E
def SayOver (K : PySem.W.Frag) (spA : Sp) : Prop := ∀ {q : Addr} {H : Hp} {vc : V} {n : Nat} {js : List Job} {em d : Bool}, SqT K H q [.str "over", .str (pageS n js)] → 1 ≤ n → n ≤ 6 → Good 16 js → 0 < js.length → js.length ≤ 6 → CertV K H vc em →
  (em = false → d = false) → (em = true → spanN js ≤ 720 → (!fitsN n js) = d) → (em = true → 720 < spanN js → d = false) → ∀ H', Same H H' → ∀ (Q : VK) (E : XK), (∀ H'', Same H' H'' → Q (.bl d) H'') → spA [.ref q, vc] H' Q E
theorem sayFits {K : PySem.W.Frag} {WV TM : Addr} (hX : PySem.W.exmAny K (.ref TM) [.ref WV, .ref TM] = some true) : SayFits K (spAccW K WV TM "fits" 1 (spHasTableX K TM)) := by
  intro q H vc n js tt d hq n1 n6 G l0 l6 hc hd1 hd2 H' s Q E hQ
  refine ⟨q, vc, [.str (pageS n js)], d, rfl, sameT s hq, rfl, fun H1 s1 Q1 E1 h1 h2 => ?_, fun H2 s2 => hQ H2 s2⟩
  exact ⟨vc, n, js, tt, rfl, n1, n6, G, l0, l6, hc.mono (s.trans s1), fun sp H2 s2 => by rw [hd1 sp]; exact h1 H2 s2, fun sp H2 dd s2 hdd => h2 (hd2 sp) TM (some dd) _ (s2.trans (same_new hdd)) hX⟩
theorem sayOver {K : PySem.W.Frag} {WV TM : Addr} (hX : PySem.W.exmAny K (.ref TM) [.ref WV, .ref TM] = some true) : SayOver K (spAccW K WV TM "over" 1 (spHasNoTableX K TM)) := by
  intro q H vc n js em d hq n1 n6 G l0 l6 hc hd0 hd1 hd2 H' s Q E hQ
  refine ⟨q, vc, [.str (pageS n js)], d, rfl, sameT s hq, rfl, fun H1 s1 Q1 E1 h1 h2 => ?_, fun H2 s2 => hQ H2 s2⟩
  exact ⟨vc, n, js, em, rfl, n1, n6, G, l0, l6, hc.mono (s.trans s1), fun e => (by have := h1 H1 (Same.refl _); rwa [hd0 e] at this), fun e sp H2 s2 => by rw [hd1 e sp]; exact h1 H2 s2, fun e sp H2 dd s2 hdd => h2 (hd2 e sp) TM (some dd) _ (s2.trans (same_new hdd)) hX⟩
/-- one of two words -/
def spOr (a b : Sp) : Sp := fun vs H Q E => a vs H Q E ∨ b vs H Q E
theorem FnOk.or {P : Program} {w : World} {K : PySem.W.Frag} {mg : Str → Option Value} {base : Heap} {X : CXT} {k : Nat} {f : Addr} {fd : FuncData} {ps : List Str} {a b : Sp} (F : FnOk P w K mg base X k f fd ps a) (G : FnOk P w K mg base X k f fd ps b) : FnOk P w K mg base X k f fd ps (spOr a b) :=
  ⟨fun vs H Q E q => q.elim (F.len vs H Q E) (G.len vs H Q E), fun A outer s H args us vs Q E hr he hb hv hs => hs.elim (F.run A outer s H args us vs Q E hr he hb hv) (G.run A outer s H args us vs Q E hr he hb hv)⟩
theorem SayFits.or {K : PySem.W.Frag} {a b : Sp} (h : SayFits K a) : SayFits K (spOr a b) := fun h1 h2 h3 h4 h5 h6 h7 h8 h9 H' s Q E hQ => .inl (h h1 h2 h3 h4 h5 h6 h7 h8 h9 H' s Q E hQ)
theorem SayOver.or {K : PySem.W.Frag} {a b : Sp} (h : SayOver K b) : SayOver K (spOr a b) := fun h1 h2 h3 h4 h5 h6 h7 h8 h9 h10 H' s Q E hQ => .inr (h h1 h2 h3 h4 h5 h6 h7 h8 h9 h10 H' s Q E hQ)
end Ts
namespace Ts
open PySem PySem.Spec PyProof.Rows L2
/-! ## many dicts locked while an expression is read -/
theorem ixAny {X : Cx} {K : PySem.W.Frag} (e : X.K = K) : IxR X (rIx K) := by subst e; exact ix_seq
end Ts
namespace Ts
open PySem PySem.Spec PyProof.Rows L2 L2H LamX
/-! ## the law's own play: some rows -/
def spCircle67 (K : PySem.W.Frag) : Sp := fun vs H Q _ => ∃ (a : Addr) (xs : List V) (js : List Job), vs = [.ref a] ∧ SqL K H a xs ∧ DpAll K H xs (sharesD js) ∧ Good 16 js ∧ js.length ≤ 6 ∧ Q (.int (spanN js : Int)) H
abbrev bor67 (e p : Nat) (j : Int) : Int := -(-j * (p : Int) / (e : Int))
def spBorder67 (K : PySem.W.Frag) : Sp := fun vs H Q _ => ∃ (v : V) (e p : Nat) (j : Int), vs = [v, .int j] ∧ Dp K H v (partD e p) ∧ GoodPart 16 e p ∧ 0 ≤ j ∧ j ≤ 10 ^ 12 ∧ Q (.int (bor67 e p j)) H
abbrev lap67 (e p : Nat) (j : Int) : Bool := decide (bor67 e p j > j * (p : Int) / (e : Int))
def spLaps67 (K : PySem.W.Frag) : Sp := fun vs H Q _ => ∃ (v : V) (e p : Nat) (j : Int), vs = [v, .int j] ∧ Dp K H v (partD e p) ∧ GoodPart 16 e p ∧ 0 ≤ j ∧ j ≤ 10 ^ 12 ∧ Q (.bl (lap67 e p j)) H
def spGroup67 (K : PySem.W.Frag) : Sp := fun vs H Q _ => ∃ (v : V) (e p : Nat) (j : Int), vs = [v, .int j] ∧ Dp K H v (partD e p) ∧ GoodPart 16 e p ∧ 1 ≤ j ∧ j ≤ 10 ^ 9 ∧ ∀ (g : Int) (H' : Hp), Same H H' → -(10 ^ 12) ≤ g → g ≤ 10 ^ 12 → Q (.int g) H'
def spKey67 (K : PySem.W.Frag) : Sp := fun vs H Q _ => ∃ (v : V) (k : Nat) (x : Str) (e p : Nat) (j t l : Int), vs = [v, .int (k : Int), .str x, .int j, .int t, .int l] ∧ Dp K H v (partD e p) ∧ GoodPart 16 e p ∧ 1 ≤ j ∧ j ≤ 10 ^ 9 ∧ 0 ≤ t ∧ t ≤ 10 ^ 9 ∧ 0 ≤ l ∧ l ≤ 10 ^ 9 ∧
  ∀ (ks : List Int) (a : Addr) (H' : Hp), Same H H' → SqT K H' a ((ks ++ [(k : Int)]).map V.int) → Q (.ref a) H'
theorem bor67_bd {e p : Nat} {j : Int} (g : GoodPart 16 e p) (h0 : 0 ≤ j) (h1 : j ≤ 10 ^ 12) : 0 ≤ bor67 e p j ∧ bor67 e p j ≤ 16 * 10 ^ 12 := by
  obtain ⟨g1, g2, g3, g4⟩ := g
  have e0 : 0 < (e : Int) := by omega
  have p16 : (p : Int) ≤ 16 := by omega
  have hm : 0 ≤ j * (p : Int) := Int.mul_nonneg h0 (by omega)
  have hm2 : j * (p : Int) ≤ 10 ^ 12 * 16 := Int.mul_le_mul h1 p16 (by omega) (by decide)
  show 0 ≤ -(-j * (p : Int) / (e : Int)) ∧ -(-j * (p : Int) / (e : Int)) ≤ 16 * 10 ^ 12
  rw [Int.neg_mul]
  have a1 : -(j * (p : Int)) / (e : Int) ≤ 0 := by
    have := Int.ediv_le_ediv e0 (show -(j * (p : Int)) ≤ 0 by omega)
    rwa [Int.zero_ediv] at this
  have a2 : -(j * (p : Int)) ≤ -(j * (p : Int)) / (e : Int) := by
    have h : -(j * (p : Int)) * (e : Int) ≤ -(j * (p : Int)) * 1 := Int.mul_le_mul_of_nonpos_left (by omega) (by omega)
    rw [Int.mul_one] at h
    exact (Int.le_ediv_iff_mul_le e0).mpr h
  omega
/-- numbers of ticks with one more for some works, both lists or tuples -/
def spPlus67 (K : PySem.W.Frag) : Sp := fun vs H Q _ => ∃ (a g : Addr) (r s : List Int), vs = [.ref a, .ref g] ∧ (SqL K H a (r.map V.int) ∨ SqT K H a (r.map V.int)) ∧ (SqL K H g (s.map V.int) ∨ SqT K H g (s.map V.int)) ∧ r.length ≤ 6 ∧
  ∀ (p : Addr) (H' : Hp), H p = none → Same H H' → H' p = some (.tup ((plusR r s).map V.int)) → Q (.ref p) H'
/-- a play of so many ticks: some rows -/
def spPlay67 (K : PySem.W.Frag) : Sp := fun vs H Q _ => ∃ (n : Nat) (b c : Addr) (x : Str) (xs : List V) (js : List Job) (f : Nat), vs = [.int (n : Int), .ref b, .str x, .ref c, .int (f : Int)] ∧ SqL K H b xs ∧ DpAll K H xs (js.map jobD) ∧ Good 16 js ∧ 0 < js.length ∧ js.length ≤ 6 ∧ n ≤ 6 ∧ SqT K H c [] ∧ f ≤ 720 ∧
  ∀ (r p : Addr) (v : V) (us : List V) (rows : List (List Int)) (H' : Hp), Same H H' → SqT K H' r [.ref p, v] → SqT K H' p us → DpAll K H' us (rows.map rowD) → rows.length ≤ f → (∀ r ∈ rows, r.length ≤ 6) → Q (.ref r) H'
theorem rIx_of67 {K : PySem.W.Frag} {H : Hp} {Q : VK} {a : Addr} {xs : List V} {i : Nat} {v : V} (h : SqL K H a xs ∨ SqT K H a xs) (e : xs[i]? = some v) (q : Q v H) : rIx K (.ref a) (.int (i : Int)) H Q :=
  h.elim (fun h => .inl ⟨a, xs, i, v, rfl, rfl, h, atI_nat e, q⟩) (fun h => .inr (.inl ⟨a, xs, i, v, rfl, rfl, h, atI_nat e, q⟩))
end Ts
namespace Ts
open PySem PySem.Spec PyProof.Rows L2 L2H LamX
/-- whether a value is a row of ticks for counts, these in a list -/
def spIsRow67 (K : PySem.W.Frag) : Sp := fun vs H Q _ => ∃ (a c : Addr) (v : V) (xs : List V) (js : List Job) (cs : List Int) (t : TabT), vs = [.ref a, .ref c, v] ∧ SqL K H a xs ∧ DpAll K H xs (sharesD js) ∧ SqL K H c (cs.map V.int) ∧ (∀ j ∈ js, GoodPart 16 j.2.1 j.2.2) ∧ 0 < js.length ∧ js.length ≤ 6 ∧ cs.length ≤ 720 ∧ (∀ n ∈ cs, n ≤ 6) ∧ TabP K H v t ∧
  ∀ H', Same H H' → Q (.bl (keepsB js cs t)) H'
theorem plus67_J {K : PySem.W.Frag} : ∀ vs H Q E, spPlusJ K vs H Q E → spPlus67 K vs H Q E := fun vs H Q E h => by
  obtain ⟨a, g, r, s, e, h1, h2, h3, h4⟩ := h
  exact ⟨a, g, r, s, e, .inr h1, .inr h2, h3, h4⟩
end Ts
namespace Ts
open PySem PySem.Spec PyProof.Rows L2 L2H LamX
theorem tupText_two67 (ts : List Str) : 2 ≤ (tupleText ts).length := by
  unfold tupleText
  rw [Str.length_append, Str.length_append]
  have h1 : (("(" : Str)).length = 1 := by decide
  have h2 : 1 ≤ ((if ts.length == 1 then ",)" else ")" : String) : Str).length := by split <;> decide
  omega
theorem shown_rows67 {rows : List (List Int)} : decide (V.str (PyData.tuple (rows.map rowD)).shown = V.str ("()" : Str)) = rows.isEmpty := by
  cases rows with
  | nil => decide +kernel
  | cons r rs =>
    refine decide_eq_false fun z => ?_
    have e := V.str.inj z
    have h1 := piled_le_tupleText (PyData.shownAll ((r :: rs).map rowD))
    have h2 := tupText_two67 (PyData.shownAll (r.map PyData.int))
    have h3 : ((PyData.tuple ((r :: rs).map rowD)).shown).length = 2 := by rw [e]; decide
    have h4 : (PyData.tuple ((r :: rs).map rowD)).shown = tupleText (PyData.shownAll ((r :: rs).map rowD)) := by simp only [PyData.shown]
    rw [h4] at h3
    have h5 : piled (PyData.shownAll ((r :: rs).map rowD)) = (PyData.shown (rowD r)).length + 2 + piled (PyData.shownAll (rs.map rowD)) := by
      rw [List.map_cons]
      simp only [PyData.shownAll, piled, List.map_cons, List.sum_cons]
    have h6 : PyData.shown (rowD r) = tupleText (PyData.shownAll (r.map PyData.int)) := by simp only [PyData.shown, rowD]
    rw [h5, h6] at h1
    omega
/-- a lot of a round that is too long -/
def big67 : List Job := [("a", 1, 16), ("b", 2, 15), ("c", 3, 7)]
theorem tags67 : ∀ t ∈ ([("a" : Str), "b", "c", "ann", "bob", "cat"] : List Str), IsTag t := by
  have go : ∀ t ∈ ([("a" : Str), "b", "c", "ann", "bob", "cat"] : List Str), 1 ≤ t.length ∧ t.length ≤ 8 ∧ ∀ c ∈ t.cps.toList, 97 ≤ c ∧ c ≤ 122 := by decide +kernel
  exact go
theorem big67_good : Good 16 big67 := by
  refine ⟨by decide +kernel, fun j hj => ?_, fun j hj => ?_⟩
  · simp only [big67, List.mem_cons, List.not_mem_nil, or_false] at hj
    rcases hj with rfl | rfl | rfl
    · exact tags67 "a" (by simp)
    · exact tags67 "b" (by simp)
    · exact tags67 "c" (by simp)
  · simp only [big67, List.mem_cons, List.not_mem_nil, or_false] at hj
    rcases hj with rfl | rfl | rfl <;> exact ⟨by decide, by decide, by decide, by decide⟩
theorem big67_span : spanN big67 = 1680 := by decide +kernel
end Ts
namespace Ts
open PySem PySem.Spec PyProof.Rows L2
/-! ## the law's own search for plans -/
theorem plusR_len (r s : List Int) : (plusR r s).length = r.length := by unfold plusR; rw [List.length_map, List.length_range]
end Ts
namespace Ts
open PySem PySem.Spec PyProof.Rows L2
/-! ## any tuple so many times, an empty one too -/
theorem tup_empty59 (l : Addr) (items : Array Value) (n : Nat) (dd : Option Addr) (sl : Array (Option Value)) (k : Int) (u : Tok) (hi : items.isEmpty = true) (h0 : 0 ≤ k) (h1 : k ≤ 1000) :
    Meets (Builtin.«tuple.__mul__» ⟨[.ref l, .int k u], []⟩) (fun _ R s => s.heap.get? l = some { cls := .type "tuple", dict := dd, data := .seq items n, slots := sl } ∧ R (.ok (.ret (Value.ref l))) s) :=
  .of_wp fun prog w A R s h => by
    obtain ⟨hp, g, d, tk, os⟩ := s
    have ⟨hl, h⟩ := h
    have f1 := AutoSeq1.idx_int
    have c0 : (decide (k < -(2 ^ 63)) || decide (k ≥ 2 ^ 63)) = false := by
      rw [decide_eq_false (by omega), decide_eq_false (by omega)]; rfl
    have c1 : (items.isEmpty || k == 1) = true := by rw [hi]; rfl
    wp_walk using wpAny_loadPart' hl
    repeat (first
      | (refine wpAny_ite_false (decide_eq_false (by rw [c0]; exact Bool.false_ne_true)) ?_; wp_walk using wpAny_loadPart' hl)
      | (refine wpAny_ite_true (decide_eq_true c1) ?_; wp_walk using wpAny_loadPart' hl))
    all_goals exact ⟨_, rfl, h⟩
def rRepE (K : PySem.W.Frag) : R2 := fun x y H Q => ∃ (l : Addr) (k : Nat) (xs : List V), x = .ref l ∧ y = .int (k : Int) ∧ SqT K H l xs ∧ 2 ≤ k ∧ k ≤ 1000 ∧ xs.length ≤ 1000 ∧ ∀ p H', Same H H' → SqT K H' p (List.replicate k xs).flatten → Q (.ref p) H'
theorem op_repE {X : Cx} {K : PySem.W.Frag} (hK : X.K = K) : OpR X (binaryOp .Mult) (rRepE K) := by
  intro pins s σ H x y v u Q I rx ry h
  obtain ⟨l, k, xs, rfl, rfl, hT, h1, h2, hz, q⟩ := h
  subst hK
  by_cases c : xs = []
  · subst c
    have q' := q l H (fun _ _ h => h) (by rw [List.flatten_replicate_nil]; exact hT)
    cases rx
    obtain ⟨tk, rfl⟩ := ry
    obtain ⟨its, ru, ⟨⟨cl, dx, dat, slo⟩, hob, hcl, cap, hda⟩, hsz⟩ := I.tuple hT
    simp only at hcl hda
    subst hcl hda
    cases ru
    exact wpAny_binaryOp_repeat_ref (T := "tuple") (U := "int") (by decide) ⟨_, hob, rfl⟩ (fun s' => typeIs_int s' _ tk) noFill_tuple_mul F.fills_int_mul F.slot_int_rmul repeat_tuple F.slot_int_index.lookup
      (call_meets F.slot_int_rmul (typeIs_int s _ tk) F.entry_int_rmul (F.args_int_rmul_2 _ _) (int_rmul_tuple _ tk l #[] cap dx slo)
        ⟨hob, rfl, ⟨_, hob, rfl⟩, call_meets F.slot_tuple_mul ⟨_, hob, rfl⟩ F.entry_tuple_mul (F.args_tuple_mul_2 _ _) (tup_empty59 l #[] cap dx slo _ tk rfl (by omega) (by omega)) ⟨hob, .ref l, H, I, rfl, q'⟩⟩)
  · exact op_repT pins s σ H (.ref l) (.int (k : Int)) v u Q I rx ry ⟨l, k, xs, rfl, rfl, hT, c, by omega, by omega, hz, fun p hp => q p _ (same_new hp) (SqT.of (by rw [upd_same, Int.toNat_natCast]))⟩
end Ts
namespace Ts
open PySem PySem.Spec PyProof.Rows L2 L2H LamX
/-! ## things of any kind that are drawn -/
section
variable {K : PySem.W.Frag}
theorem tS_ints {H : Hp} {p : Addr} {ms : List Int} (h : SqT K H p (ms.map V.int)) : ∃ t, ThingS K H (.ref p) t :=
  ⟨some (ms.map some), p, _, rfl, h, by rw [List.length_map, List.length_map], fun i x o h1 h2 => by
    rw [List.getElem?_map] at h1 h2
    cases e : ms[i]? with
    | none => rw [e] at h1; cases h1
    | some m => rw [e] at h1 h2; cases h1; cases h2; rfl⟩
theorem tS_mono {H H' : Hp} {v : V} (s : Same H H') (h : ∃ t, ThingS K H v t) : ∃ t, ThingS K H' v t := by
  obtain ⟨t, h⟩ := h
  refine ⟨t, ?_⟩
  cases t with
  | none => obtain ⟨T, h1, h2⟩ := h; exact ⟨T, h1, TyX.mono h2 s⟩
  | some os => obtain ⟨p, xs, h1, h2, h3, h4⟩ := h; exact ⟨p, xs, h1, sameT s h2, h3, fun i x o a b => (h4 i x o a b).mono s⟩
theorem or70 {r : Bool} {X Z : Prop} (h : X) (hz : r = false → X → Z) : if r = true then X else Z := by
  cases r
  · exact hz rfl h
  · exact h
theorem cutV_mem70 {xs : List V} {lo hi : Option Int} {x : V} (h : x ∈ cutV xs lo hi) : x ∈ xs := List.mem_of_mem_drop (List.mem_of_mem_take h)
theorem tS_one70 {H : Hp} {p : Addr} {v : V} {T : String} (hT : T ∈ ["int", "bool", "str", "NoneType", "list", "dict"]) (hv : TyX K H v (.type T)) (h : SqT K H p [v]) (hn : KindV K H v none) : ∃ t, ThingS K H (.ref p) t :=
  ⟨some [none], p, _, rfl, h, rfl, fun i x o h1 h2 => by
    cases i with
    | zero => cases h1; cases h2; exact hn
    | succ i => cases h1⟩
/-- ticks of any kind -/
def Tk70 (K : PySem.W.Frag) (H : Hp) (us : List V) : Prop := ∀ u ∈ us, ∃ r, ThingS K H u r
theorem Tk70.mono {H H' : Hp} {us : List V} (h : Tk70 K H us) (s : Same H H') : Tk70 K H' us := fun u hu => tS_mono s (h u hu)
theorem Tk70.append {H : Hp} {us vs : List V} (h : Tk70 K H us) (g : Tk70 K H vs) : Tk70 K H (us ++ vs) := fun u hu => (List.mem_append.mp hu).elim (h u) (g u)
theorem Tk70.sub {H : Hp} {us vs : List V} (h : Tk70 K H us) (g : ∀ v ∈ vs, v ∈ us) : Tk70 K H vs := fun u hu => h u (g u hu)
theorem Tk70.tab {H : Hp} {p : Addr} {us : List V} (h : Tk70 K H us) (hp : SqT K H p us) : ∃ t, TabP K H (.ref p) t := by
  have go : ∀ us : List V, Tk70 K H us → ∃ rs : List (Option (List (Option Int))), us.length = rs.length ∧ ∀ (i : Nat) (x : V) (r : Option (List (Option Int))), us[i]? = some x → rs[i]? = some r → ThingS K H x r := by
    intro us
    induction us with
    | nil => exact fun _ => ⟨[], rfl, fun i x r h => by cases h⟩
    | cons u us ih =>
      intro h
      obtain ⟨r, hr⟩ := h u List.mem_cons_self
      obtain ⟨rs, l, hrs⟩ := ih fun v hv => h v (List.mem_cons_of_mem _ hv)
      refine ⟨r :: rs, by rw [List.length_cons, List.length_cons, l], fun i x r' h1 h2 => ?_⟩
      cases i with
      | zero => cases h1; cases h2; exact hr
      | succ i => exact hrs i x r' h1 h2
  obtain ⟨rs, l, hrs⟩ := go us h
  exact ⟨some rs, p, us, rfl, hp, l, hrs⟩
theorem Tk70.rows {H : Hp} {us : List V} {rows : List (List Int)} (h : DpAll K H us (rows.map rowD)) : Tk70 K H us := fun u hu => by
  obtain ⟨i, hi⟩ := List.mem_iff_getElem?.mp hu
  obtain ⟨r, a, _, rfl, ha⟩ := row_at h hi
  exact tS_ints ha
theorem tab_no70 {H : Hp} {v : V} {T : String} (hT : T ∈ ["int", "bool", "str", "NoneType", "list", "dict"]) (h : TyX K H v (.type T)) : ∃ t, TabP K H v t := ⟨none, T, hT, h⟩
theorem tab_mono70 {H H' : Hp} {v : V} (s : Same H H') (h : ∃ t, TabP K H v t) : ∃ t, TabP K H' v t := by
  obtain ⟨t, h⟩ := h; exact ⟨t, h.mono s⟩
/-- rows with something otherwise -/
def spBentRow70 (K : PySem.W.Frag) : Sp := fun vs H Q _ => ∃ (b p : Addr) (us : List V) (rows : List (List Int)) (m : Nat), vs = [.ref b, .ref p, .int (m : Int)] ∧ Bag H b ∧ SqT K (hid b H) p us ∧ DpAll K (hid b H) us (rows.map rowD) ∧ rows.length ≤ 60 ∧ (∀ r ∈ rows, r.length ≤ 6) ∧ 0 < m ∧ m ≤ 6 ∧
  ∀ (v : V) (t : TabT) (H' : Hp), But b H H' → Bag H' b → TabP K (hid b H') v t → Q v H'
theorem new_at70 {H : Hp} {p : Addr} {o : HO} (_ : Same H (upd H p o)) : (upd H p o) p = some o := upd_same
theorem subs_in70 : ∀ (n : Nat), ∀ s ∈ subsL n, ∀ i ∈ s, 0 ≤ i ∧ i < (n : Int)
  | 0, s, h, i, hi => by rw [List.mem_singleton.mp h] at hi; cases hi
  | n + 1, s, h, i, hi => by
    rcases List.mem_append.mp h with z | z
    · have := subs_in70 n s z i hi; omega
    · obtain ⟨u, hu, rfl⟩ := List.mem_map.mp z
      rcases List.mem_append.mp hi with y | y
      · have := subs_in70 n u hu i y; omega
      · rw [List.mem_singleton.mp y]; omega
end
end Ts
namespace Ts
open PySem PySem.Spec PyProof.Rows L2
/-! ## (v,) * k, k up to 10000 -/
def rRepL60 (K : PySem.W.Frag) : R2 := fun x y H Q => ∃ (l : Addr) (k : Nat) (v : V), x = .ref l ∧ y = .int (k : Int) ∧ SqT K H l [v] ∧ 2 ≤ k ∧ k ≤ 10000 ∧ ∀ p, H p = none → Q (.ref p) (upd H p (.tup (List.replicate k v)))
theorem op_repL60 {X : Cx} {K : PySem.W.Frag} (hK : X.K = K) : OpR X (binaryOp .Mult) (rRepL60 K) := by
  subst hK
  intro pins s σ H x y v u Q I rx ry h
  obtain ⟨m, k, z, rfl, rfl, hT, k2, k9, q⟩ := h
  cases rx
  obtain ⟨tk, rfl⟩ := ry
  obtain ⟨us, ru, ⟨⟨cl, dx, dat, slo⟩, hob, hcl, cap, hda⟩, hus⟩ := I.tuple hT
  simp only at hcl hda
  subst hcl hda
  obtain ⟨w0, rfl, rw0⟩ := vals1 ru
  have g0 : (decide ((k : Int) < -(2 ^ 63)) || decide ((k : Int) ≥ 2 ^ 63)) = false := by rw [decide_eq_false (by omega), decide_eq_false (by omega)]; rfl
  have g1 : ([w0].toArray.isEmpty || (k : Int) == 1) = false := (Bool.false_or _).trans (beq_eq_false_iff_ne.mpr (by omega))
  have g2 : (decide ((k : Int) ≤ 0) || [w0].toArray.isEmpty) = false := (Bool.or_false _).trans (decide_eq_false (by omega))
  have g4 : Builtin.Tuple.tupleTooMany ((([w0].toArray.size : Nat) : Int) * (k : Int)) = false := by
    unfold Builtin.Tuple.tupleTooMany; rw [sizeLine_eq]
    exact decide_eq_false (by show ¬ _; simp; omega)
  have ef : (List.foldl (fun x1 x2 => x1 ++ x2) #[] (List.replicate (k : Int).toNat [w0].toArray)) = (List.replicate k w0).toArray := by
    rw [size_rep [w0], Int.toNat_natCast, List.flatten_replicate_singleton]
  refine wpAny_binaryOp_repeat_ref (T := "tuple") (U := "int") (by decide) ⟨_, hob, rfl⟩ (fun s' => typeIs_int s' _ tk) noFill_tuple_mul F.fills_int_mul F.slot_int_rmul repeat_tuple F.slot_int_index.lookup ?_
  refine call_meets F.slot_int_rmul (typeIs_int s _ tk) F.entry_int_rmul (F.args_int_rmul_2 _ _) (int_rmul_tuple _ tk m [w0].toArray cap dx slo) ⟨hob, rfl, ⟨_, hob, rfl⟩, ?_⟩
  refine call_meets F.slot_tuple_mul ⟨_, hob, rfl⟩ F.entry_tuple_mul (F.args_tuple_mul_2 _ _) (tuple_mulW m [w0].toArray cap dx slo _ tk g0 g1 g2 (by simp; omega) g4 (by rw [ef, List.size_toArray, List.length_replicate, sizeLine_eq]; omega)) ⟨hob, ?_⟩
  rw [ef]
  have hn : H s.heap.objs.size = none := I.hok.fresh (Nat.le_refl _)
  have vs : ∀ j, Vals (List.replicate j z) (List.replicate j w0) := fun j => by
    induction j with
    | zero => exact .nil
    | succ j ih => exact .cons rw0 ih
  refine ⟨.ref s.heap.objs.size, _, I.laid (t' := s.toks) (o := .tup (List.replicate k z)) (fun c oc e => Heap.get?_push_of_some _ e) (Nat.le_refl _) ?_, rfl, q _ hn⟩
  exact ⟨by rw [List.length_replicate, sizeLine_eq]; omega, _, vs k, IsTup.new _ _⟩
end Ts
namespace Ts
open PySem PySem.Spec PyProof.Rows L2
/-! ## rules under a frag of one's own, for use in comprehensions -/
theorem reprVK {X : Cx} {K : PySem.W.Frag} (h : X.K = K) (hg : X.A.guards = some []) (hu : X.A.units + 100 < cLine) : CallR X (.builtin "repr") (fun xs H Q => ∃ v d, xs = [v] ∧ Dp K H v d ∧ d.showable = true ∧ d.hasDict = false ∧ d.depth < 60 ∧ d.shown.length ≤ sizeLine ∧ Q (.str d.shown) H) := by
  subst h; exact call_reprV hg hu
end Ts
namespace Ts
open PySem PySem.Spec PyProof.Rows L2 L2H LamX
abbrev s_TooMany___init__ : Stmt := inClass (top 13) 0
theorem sc_TooMany___init__ : FnScope ["self", "limit"] ["self", "limit"] (defScope s_TooMany___init__) := ⟨rfl, rfl, rfl, by decide +kernel, rfl, by decide +kernel, by decide +kernel⟩
abbrev s_is_number : Stmt := top 26
theorem sc_is_number : FnScope ["value", "low", "high"] ["value", "low", "high"] (defScope s_is_number) := ⟨rfl, rfl, rfl, by decide +kernel, rfl, by decide +kernel, by decide +kernel⟩
abbrev s_is_number_from : Stmt := top 27
theorem sc_is_number_from : FnScope ["value", "low"] ["value", "low"] (defScope s_is_number_from) := ⟨rfl, rfl, rfl, by decide +kernel, rfl, by decide +kernel, by decide +kernel⟩
abbrev s_is_name : Stmt := top 28
theorem sc_is_name : FnScope ["value", "letter"] ["value"] (defScope s_is_name) := ⟨rfl, rfl, rfl, by decide +kernel, rfl, by decide +kernel, by decide +kernel⟩
abbrev s_is_share : Stmt := top 29
theorem sc_is_share : FnScope ["value", "top", "bottom"] ["value"] (defScope s_is_share) := ⟨rfl, rfl, rfl, by decide +kernel, rfl, by decide +kernel, by decide +kernel⟩
abbrev s_keeps_all : Stmt := top 31
theorem sc_keeps_all : FnScope ["shares", "hands", "value", "had", "moment", "members", "at"] ["shares", "hands", "value"] (defScope s_keeps_all) := ⟨rfl, rfl, rfl, by decide +kernel, rfl, by decide +kernel, by decide +kernel⟩
abbrev s_are_kept : Stmt := top 32
theorem sc_are_kept : FnScope ["shares", "moment", "had", "share", "number"] ["shares", "moment", "had"] (defScope s_are_kept) := ⟨rfl, rfl, rfl, by decide +kernel, rfl, by decide +kernel, by decide +kernel⟩
abbrev s_is_kept : Stmt := top 33
theorem sc_is_kept : FnScope ["share", "moment", "number", "top", "bottom"] ["share", "moment", "number"] (defScope s_is_kept) := ⟨rfl, rfl, rfl, by decide +kernel, rfl, by decide +kernel, by decide +kernel⟩
abbrev s__are_members : Stmt := top 34
theorem sc__are_members : FnScope ["value", "many", "most", "least", "at"] ["value", "many", "most"] (defScope s__are_members) := ⟨rfl, rfl, rfl, by decide +kernel, rfl, by decide +kernel, by decide +kernel⟩
abbrev s_Lot___init__ : Stmt := inClass (top 36) 0
theorem sc_Lot___init__ : FnScope ["self", "text", "first", "rows", "hands", "works"] ["self", "text"] (defScope s_Lot___init__) := ⟨rfl, rfl, rfl, by decide +kernel, rfl, by decide +kernel, by decide +kernel⟩
abbrev s_Lot_hands : Stmt := inClass (top 36) 2
theorem sc_Lot_hands : FnScope ["self"] ["self"] (defScope s_Lot_hands) := ⟨rfl, rfl, rfl, by decide +kernel, rfl, by decide +kernel, by decide +kernel⟩
abbrev s_Lot_shares : Stmt := inClass (top 36) 4
theorem sc_Lot_shares : FnScope ["self"] ["self"] (defScope s_Lot_shares) := ⟨rfl, rfl, rfl, by decide +kernel, rfl, by decide +kernel, by decide +kernel⟩
abbrev s_Lot_total : Stmt := inClass (top 36) 5
theorem sc_Lot_total : FnScope ["self"] ["self"] (defScope s_Lot_total) := ⟨rfl, rfl, rfl, by decide +kernel, rfl, by decide +kernel, by decide +kernel⟩
abbrev s_Lot_span : Stmt := inClass (top 36) 6
theorem sc_Lot_span : FnScope ["self"] ["self"] (defScope s_Lot_span) := ⟨rfl, rfl, rfl, by decide +kernel, rfl, by decide +kernel, by decide +kernel⟩
abbrev s_fits : Stmt := top 37
theorem sc_fits : FnScope ["lot", "top", "bottom"] ["lot"] (defScope s_fits) := ⟨rfl, rfl, rfl, by decide +kernel, rfl, by decide +kernel, by decide +kernel⟩
abbrev s_check_lot : Stmt := top 38
theorem sc_check_lot : FnScope ["lot"] ["lot"] (defScope s_check_lot) := ⟨rfl, rfl, rfl, by decide +kernel, rfl, by decide +kernel, by decide +kernel⟩
abbrev s_check_round : Stmt := top 40
theorem sc_check_round : FnScope ["lot"] ["lot"] (defScope s_check_round) := ⟨rfl, rfl, rfl, by decide +kernel, rfl, by decide +kernel, by decide +kernel⟩
abbrev s__read_hands : Stmt := top 41
theorem sc__read_hands : FnScope ["row", "words"] ["row"] (defScope s__read_hands) := ⟨rfl, rfl, rfl, by decide +kernel, rfl, by decide +kernel, by decide +kernel⟩
abbrev s__read_works : Stmt := top 42
theorem sc__read_works : FnScope ["rows", "works", "row", "work"] ["rows"] (defScope s__read_works) := ⟨rfl, rfl, rfl, by decide +kernel, rfl, by decide +kernel, by decide +kernel⟩
abbrev s__read_work : Stmt := top 43
theorem sc__read_work : FnScope ["row", "words", "word", "share"] ["row"] (defScope s__read_work) := ⟨rfl, rfl, rfl, by decide +kernel, rfl, by decide +kernel, by decide +kernel⟩
abbrev s__read_number : Stmt := top 44
theorem sc__read_number : FnScope ["word", "most", "number"] ["word", "most"] (defScope s__read_number) := ⟨rfl, rfl, rfl, by decide +kernel, rfl, by decide +kernel, by decide +kernel⟩
abbrev s__span_of : Stmt := top 46
theorem sc__span_of : FnScope ["shares", "span", "_", "bottom"] ["shares"] (defScope s__span_of) := ⟨rfl, rfl, rfl, by decide +kernel, rfl, by decide +kernel, by decide +kernel⟩
abbrev s__total_of : Stmt := top 47
theorem sc__total_of : FnScope ["shares", "span", "top", "bottom", "parts", "common"] ["shares", "span"] (defScope s__total_of) := ⟨rfl, rfl, rfl, by decide +kernel, rfl, by decide +kernel, by decide +kernel⟩
abbrev s_accepts : Stmt := top 80
theorem sc_accepts : FnScope ["claim", "certificate", "word", "told", "look"] ["claim", "certificate"] (defScope s_accepts) := ⟨rfl, rfl, rfl, by decide +kernel, rfl, by decide +kernel, by decide +kernel⟩
abbrev s__has_table : Stmt := top 81
theorem sc__has_table : FnScope ["certificate", "text", "lot"] ["certificate", "text"] (defScope s__has_table) := ⟨rfl, rfl, rfl, by decide +kernel, rfl, by decide +kernel, by decide +kernel⟩
abbrev s__has_no_table : Stmt := top 82
theorem sc__has_no_table : FnScope ["certificate", "text"] ["certificate", "text"] (defScope s__has_no_table) := ⟨rfl, rfl, rfl, by decide +kernel, rfl, by decide +kernel, by decide +kernel⟩
abbrev s__lot_of : Stmt := top 88
theorem sc__lot_of : FnScope ["text", "lot"] ["text"] (defScope s__lot_of) := ⟨rfl, rfl, rfl, by decide +kernel, rfl, by decide +kernel, by decide +kernel⟩
abbrev s__is_empty : Stmt := top 89
theorem sc__is_empty : FnScope ["certificate"] ["certificate"] (defScope s__is_empty) := ⟨rfl, rfl, rfl, by decide +kernel, rfl, by decide +kernel, by decide +kernel⟩
abbrev s__law_bag : Stmt := top 96
theorem sc__law_bag : FnScope ["_law_script", "_law_spot", "_law_cell", "_law_part"] ["_law_script", "_law_spot"] (defScope s__law_bag) := ⟨rfl, rfl, rfl, by decide +kernel, rfl, by decide +kernel, by decide +kernel⟩
abbrev s__law_take : Stmt := top 97
theorem sc__law_take : FnScope ["_law_bag_here", "_law_many", "_law_seed", "_law_high", "_law_digit"] ["_law_bag_here", "_law_many"] (defScope s__law_take) := ⟨rfl, rfl, rfl, by decide +kernel, rfl, by decide +kernel, by decide +kernel⟩
abbrev s__law_of : Stmt := top 98
theorem sc__law_of : FnScope ["_law_bag_here", "_law_things"] ["_law_bag_here", "_law_things"] (defScope s__law_of) := ⟨rfl, rfl, rfl, by decide +kernel, rfl, by decide +kernel, by decide +kernel⟩
abbrev s__law_whole : Stmt := top 99
theorem sc__law_whole : FnScope ["_law_thing"] ["_law_thing"] (defScope s__law_whole) := ⟨rfl, rfl, rfl, by decide +kernel, rfl, by decide +kernel, by decide +kernel⟩
abbrev s__law_common : Stmt := top 100
theorem sc__law_common : FnScope ["_law_one", "_law_two", "_law_turn"] ["_law_one", "_law_two"] (defScope s__law_common) := ⟨rfl, rfl, rfl, by decide +kernel, rfl, by decide +kernel, by decide +kernel⟩
abbrev s__law_share : Stmt := top 101
theorem sc__law_share : FnScope ["_law_bag_here", "_law_menu", "_law_bottom", "_law_top", "_law_by"] ["_law_bag_here", "_law_menu"] (defScope s__law_share) := ⟨rfl, rfl, rfl, by decide +kernel, rfl, by decide +kernel, by decide +kernel⟩
abbrev s__law_sum : Stmt := top 102
theorem sc__law_sum : FnScope ["_law_shares_here", "_law_top", "_law_bottom", "_law_e", "_law_p", "_law_by"] ["_law_shares_here"] (defScope s__law_sum) := ⟨rfl, rfl, rfl, by decide +kernel, rfl, by decide +kernel, by decide +kernel⟩
abbrev s__law_circle : Stmt := top 103
theorem sc__law_circle : FnScope ["_law_shares_here", "_law_found", "_law_e", "_law_p"] ["_law_shares_here"] (defScope s__law_circle) := ⟨rfl, rfl, rfl, by decide +kernel, rfl, by decide +kernel, by decide +kernel⟩
abbrev s__law_sheet : Stmt := top 104
theorem sc__law_sheet : FnScope ["_law_many", "_law_works_here", "_law_tag", "_law_e", "_law_p", "_law_rows"] ["_law_many", "_law_works_here"] (defScope s__law_sheet) := ⟨rfl, rfl, rfl, by decide +kernel, rfl, by decide +kernel, by decide +kernel⟩
abbrev s__law_world : Stmt := top 105
theorem sc__law_world : FnScope ["_law_bag_here", "_law_menu", "_law_most", "_law_tags", "_law_works_here", "_law_k", "_law_tag", "_law_share_here", "_law_top", "_law_bottom", "_law_least", "_law_many"] ["_law_bag_here", "_law_menu", "_law_most"] (defScope s__law_world) := ⟨rfl, rfl, rfl, by decide +kernel, rfl, by decide +kernel, by decide +kernel⟩
abbrev s__law_kept : Stmt := top 106
theorem sc__law_kept : FnScope ["_law_shares_here", "_law_had", "_law_moment_here", "_law_e", "_law_p", "_law_a"] ["_law_shares_here", "_law_had", "_law_moment_here"] (defScope s__law_kept) := ⟨rfl, rfl, rfl, by decide +kernel, rfl, by decide +kernel, by decide +kernel⟩
abbrev s__law_sets : Stmt := top 107
theorem sc__law_sets : FnScope ["_law_size", "_law_most", "_law_found", "_law_k", "_law_lot_here"] ["_law_size", "_law_most"] (defScope s__law_sets) := ⟨rfl, rfl, rfl, by decide +kernel, rfl, by decide +kernel, by decide +kernel⟩
abbrev s__law_more : Stmt := top 108
theorem sc__law_more : FnScope ["_law_had", "_law_lot_here", "_law_k"] ["_law_had", "_law_lot_here"] (defScope s__law_more) := ⟨rfl, rfl, rfl, by decide +kernel, rfl, by decide +kernel, by decide +kernel⟩
abbrev s__law_border : Stmt := top 109
theorem sc__law_border : FnScope ["_law_share_here", "_law_turn_here"] ["_law_share_here", "_law_turn_here"] (defScope s__law_border) := ⟨rfl, rfl, rfl, by decide +kernel, rfl, by decide +kernel, by decide +kernel⟩
abbrev s__law_laps : Stmt := top 110
theorem sc__law_laps : FnScope ["_law_share_here", "_law_turn_here"] ["_law_share_here", "_law_turn_here"] (defScope s__law_laps) := ⟨rfl, rfl, rfl, by decide +kernel, rfl, by decide +kernel, by decide +kernel⟩
abbrev s__law_group : Stmt := top 111
theorem sc__law_group : FnScope ["_law_share_here", "_law_turn_here", "_law_e", "_law_p", "_law_least", "_law_found", "_law_k", "_law_u"] ["_law_share_here", "_law_turn_here"] (defScope s__law_group) := ⟨rfl, rfl, rfl, by decide +kernel, rfl, by decide +kernel, by decide +kernel⟩
abbrev s__law_key : Stmt := top 112
theorem sc__law_key : FnScope ["_law_share_here", "_law_k", "_law_word", "_law_turn_here", "_law_moment_here", "_law_late", "_law_e", "_law_p", "_law_u", "_law_group_here"] ["_law_share_here", "_law_k", "_law_word", "_law_turn_here", "_law_moment_here", "_law_late"] (defScope s__law_key) := ⟨rfl, rfl, rfl, by decide +kernel, rfl, by decide +kernel, by decide +kernel⟩
abbrev s__law_play : Stmt := top 113
theorem sc__law_play : FnScope ["_law_many", "_law_works_here", "_law_word", "_law_lates_here", "_law_ticks_here", "_law_had", "_law_found", "_law_t", "_law_due", "_law_k", "_law_tag", "_law_e", "_law_p", "_law_other_tag", "_law_first", "_law_by", "_law_late", "_law_each", "_law_lot_here"] ["_law_many", "_law_works_here", "_law_word", "_law_lates_here", "_law_ticks_here"] (defScope s__law_play) := ⟨rfl, rfl, rfl, by decide +kernel, rfl, by decide +kernel, by decide +kernel⟩
abbrev s__law_said : Stmt := top 114
theorem sc__law_said : FnScope ["_law_asked", "_law_proof_here", "_law_due"] ["_law_asked", "_law_proof_here", "_law_due"] (defScope s__law_said) := ⟨rfl, rfl, rfl, by decide +kernel, rfl, by decide +kernel, by decide +kernel⟩
abbrev s__law_is_row : Stmt := top 115
theorem sc__law_is_row : FnScope ["_law_shares_here", "_law_counts_here", "_law_thing", "_law_had", "_law_t", "_law_k"] ["_law_shares_here", "_law_counts_here", "_law_thing"] (defScope s__law_is_row) := ⟨rfl, rfl, rfl, by decide +kernel, rfl, by decide +kernel, by decide +kernel⟩
abbrev s__law_bent_row : Stmt := top 116
theorem sc__law_bent_row : FnScope ["_law_bag_here", "_law_row", "_law_size", "_law_way", "_law_t", "_law_k", "_law_fresh"] ["_law_bag_here", "_law_row", "_law_size"] (defScope s__law_bent_row) := ⟨rfl, rfl, rfl, by decide +kernel, rfl, by decide +kernel, by decide +kernel⟩
abbrev s__law_any_row : Stmt := top 117
theorem sc__law_any_row : FnScope ["_law_bag_here", "_law_many", "_law_shares_here", "_law_counts_here", "_law_had", "_law_row", "_law_t", "_law_lot_here", "_law_sets_here", "_law_some"] ["_law_bag_here", "_law_many", "_law_shares_here", "_law_counts_here"] (defScope s__law_any_row) := ⟨rfl, rfl, rfl, by decide +kernel, rfl, by decide +kernel, by decide +kernel⟩
abbrev s__law_right : Stmt := top 118
theorem sc__law_right : FnScope ["_law_bag_here", "_law_turn", "_law_many", "_law_works_here", "_law_tag", "_law_share_here", "_law_sheet_here", "_law_shares_here", "_law_circle_here", "_law_total_here", "_law_over", "_law_again", "_law_word", "_law_row", "_law_proof_here"] ["_law_bag_here"] (defScope s__law_right) := ⟨rfl, rfl, rfl, by decide +kernel, rfl, by decide +kernel, by decide +kernel⟩
abbrev s_law : Stmt := top 119
theorem sc_law : FnScope ["_law_script", "_law_sheet_here", "_law_first", "_law_told_here", "_law_spot"] ["_law_script"] (defScope s_law) := ⟨rfl, rfl, rfl, by decide +kernel, rfl, by decide +kernel, by decide +kernel⟩
def fF0 : DefF := ⟨fun K => He.ga K "_law_bag", "_law_bag", "_law_bag", s__law_bag⟩
def fF1 : DefF := ⟨fun K => He.ga K "_law_take", "_law_take", "_law_take", s__law_take⟩
def fF2 : DefF := ⟨fun K => He.ga K "_law_of", "_law_of", "_law_of", s__law_of⟩
def fF3 : DefF := ⟨fun K => He.ga K "_law_whole", "_law_whole", "_law_whole", s__law_whole⟩
def fF4 : DefF := ⟨fun K => He.ga K "_law_common", "_law_common", "_law_common", s__law_common⟩
def fF5 : DefF := ⟨fun K => He.ga K "_law_share", "_law_share", "_law_share", s__law_share⟩
def fF6 : DefF := ⟨fun K => He.ga K "_law_sum", "_law_sum", "_law_sum", s__law_sum⟩
def fF7 : DefF := ⟨fun K => He.ga K "_law_circle", "_law_circle", "_law_circle", s__law_circle⟩
def fF8 : DefF := ⟨fun K => He.ga K "_law_sheet", "_law_sheet", "_law_sheet", s__law_sheet⟩
def fF9 : DefF := ⟨fun K => He.ga K "_law_world", "_law_world", "_law_world", s__law_world⟩
def fF10 : DefF := ⟨fun K => He.ga K "_law_kept", "_law_kept", "_law_kept", s__law_kept⟩
def fF11 : DefF := ⟨fun K => He.ga K "_law_sets", "_law_sets", "_law_sets", s__law_sets⟩
def fF12 : DefF := ⟨fun K => He.ga K "_law_more", "_law_more", "_law_more", s__law_more⟩
def fF13 : DefF := ⟨fun K => He.ga K "_law_border", "_law_border", "_law_border", s__law_border⟩
def fF14 : DefF := ⟨fun K => He.ga K "_law_laps", "_law_laps", "_law_laps", s__law_laps⟩
def fF15 : DefF := ⟨fun K => He.ga K "_law_group", "_law_group", "_law_group", s__law_group⟩
def fF16 : DefF := ⟨fun K => He.ga K "_law_key", "_law_key", "_law_key", s__law_key⟩
def fF17 : DefF := ⟨fun K => He.ga K "_law_play", "_law_play", "_law_play", s__law_play⟩
def fF18 : DefF := ⟨fun K => He.ga K "_law_said", "_law_said", "_law_said", s__law_said⟩
def fF19 : DefF := ⟨fun K => He.ga K "_law_is_row", "_law_is_row", "_law_is_row", s__law_is_row⟩
def fF20 : DefF := ⟨fun K => He.ga K "_law_bent_row", "_law_bent_row", "_law_bent_row", s__law_bent_row⟩
def fF21 : DefF := ⟨fun K => He.ga K "_law_any_row", "_law_any_row", "_law_any_row", s__law_any_row⟩
def fF22 : DefF := ⟨fun K => He.ga K "_law_right", "_law_right", "_law_right", s__law_right⟩
def fF23 : DefF := ⟨fun K => He.ga K "law", "law", "law", s_law⟩
def fF24 : DefF := ⟨fun K => He.ga K "is_number", "is_number", "is_number", s_is_number⟩
def fF25 : DefF := ⟨fun K => He.ga K "is_number_from", "is_number_from", "is_number_from", s_is_number_from⟩
def fF26 : DefF := ⟨fun K => He.ga K "is_name", "is_name", "is_name", s_is_name⟩
def fF27 : DefF := ⟨fun K => He.ga K "is_share", "is_share", "is_share", s_is_share⟩
def fF28 : DefF := ⟨fun K => He.ga K "keeps_all", "keeps_all", "keeps_all", s_keeps_all⟩
def fF29 : DefF := ⟨fun K => He.ga K "are_kept", "are_kept", "are_kept", s_are_kept⟩
def fF30 : DefF := ⟨fun K => He.ga K "is_kept", "is_kept", "is_kept", s_is_kept⟩
def fF31 : DefF := ⟨fun K => He.ga K "_are_members", "_are_members", "_are_members", s__are_members⟩
def fF32 : DefF := ⟨fun K => He.ga K "check_lot", "check_lot", "check_lot", s_check_lot⟩
def fF33 : DefF := ⟨fun K => He.ga K "check_round", "check_round", "check_round", s_check_round⟩
def fF34 : DefF := ⟨fun K => He.ga K "fits", "fits", "fits", s_fits⟩
def fF35 : DefF := ⟨fun K => He.ga K "_read_hands", "_read_hands", "_read_hands", s__read_hands⟩
def fF36 : DefF := ⟨fun K => He.ga K "_read_works", "_read_works", "_read_works", s__read_works⟩
def fF37 : DefF := ⟨fun K => He.ga K "_read_work", "_read_work", "_read_work", s__read_work⟩
def fF38 : DefF := ⟨fun K => He.ga K "_read_number", "_read_number", "_read_number", s__read_number⟩
def fF39 : DefF := ⟨fun K => He.ga K "_span_of", "_span_of", "_span_of", s__span_of⟩
def fF40 : DefF := ⟨fun K => He.ga K "_total_of", "_total_of", "_total_of", s__total_of⟩
def fF41 : DefF := ⟨fun K => He.ga K "accepts", "accepts", "accepts", s_accepts⟩
def fF42 : DefF := ⟨fun K => He.ga K "_has_table", "_has_table", "_has_table", s__has_table⟩
def fF43 : DefF := ⟨fun K => He.ga K "_has_no_table", "_has_no_table", "_has_no_table", s__has_no_table⟩
def fF44 : DefF := ⟨fun K => He.ga K "_is_empty", "_is_empty", "_is_empty", s__is_empty⟩
def fF45 : DefF := ⟨fun K => He.ga K "_lot_of", "_lot_of", "_lot_of", s__lot_of⟩
def fF46 : DefF := ⟨fun K => He.ma K (He.ga K "Lot") "__init__", "__init__", "Lot.__init__", s_Lot___init__⟩
def fF47 : DefF := ⟨fun K => getAd K (He.ma K (He.ga K "Lot") "shares"), "shares", "Lot.shares", s_Lot_shares⟩
def fF48 : DefF := ⟨fun K => getAd K (He.ma K (He.ga K "Lot") "span"), "span", "Lot.span", s_Lot_span⟩
def fF49 : DefF := ⟨fun K => getAd K (He.ma K (He.ga K "Lot") "hands"), "hands", "Lot.hands", s_Lot_hands⟩
def fF50 : DefF := ⟨fun K => getAd K (He.ma K (He.ga K "Lot") "total"), "total", "Lot.total", s_Lot_total⟩
def fF51 : DefF := ⟨fun K => He.ma K (He.ga K "TooMany") "__init__", "__init__", "TooMany.__init__", s_TooMany___init__⟩
def fnF : List DefF := [fF0, fF1, fF2, fF3, fF4, fF5, fF6, fF7, fF8, fF9, fF10, fF11, fF12, fF13, fF14, fF15, fF16, fF17, fF18, fF19, fF20, fF21, fF22, fF23, fF24, fF25, fF26, fF27, fF28, fF29, fF30, fF31, fF32, fF33, fF34, fF35, fF36, fF37, fF38, fF39, fF40, fF41, fF42, fF43, fF44, fF45, fF46, fF47, fF48, fF49, fF50, fF51]
abbrev Ex0 (K : PySem.W.Frag) : Prop := (PySem.W.nsIn K mainGlobals "_law_bag" = some (some (.ref (He.ga K "_law_bag")))) ∧ (PySem.W.keepIn K (.ref (He.ga K "_law_bag")) = true) ∧ (PySem.W.nsIn K mainGlobals "_law_take" = some (some (.ref (He.ga K "_law_take")))) ∧ (PySem.W.keepIn K (.ref (He.ga K "_law_take")) = true) ∧ (PySem.W.nsIn K mainGlobals "_law_of" = some (some (.ref (He.ga K "_law_of")))) ∧ (PySem.W.keepIn K (.ref (He.ga K "_law_of")) = true) ∧ (PySem.W.nsIn K mainGlobals "_law_whole" = some (some (.ref (He.ga K "_law_whole")))) ∧ (PySem.W.keepIn K (.ref (He.ga K "_law_whole")) = true) ∧ (PySem.W.nsIn K mainGlobals "_law_common" = some (some (.ref (He.ga K "_law_common")))) ∧ (PySem.W.keepIn K (.ref (He.ga K "_law_common")) = true) ∧ (PySem.W.nsIn K mainGlobals "_law_share" = some (some (.ref (He.ga K "_law_share")))) ∧ (PySem.W.keepIn K (.ref (He.ga K "_law_share")) = true)
abbrev Ex1 (K : PySem.W.Frag) : Prop := (PySem.W.nsIn K mainGlobals "_law_sum" = some (some (.ref (He.ga K "_law_sum")))) ∧ (PySem.W.keepIn K (.ref (He.ga K "_law_sum")) = true) ∧ (PySem.W.nsIn K mainGlobals "_law_circle" = some (some (.ref (He.ga K "_law_circle")))) ∧ (PySem.W.keepIn K (.ref (He.ga K "_law_circle")) = true) ∧ (PySem.W.nsIn K mainGlobals "_law_sheet" = some (some (.ref (He.ga K "_law_sheet")))) ∧ (PySem.W.keepIn K (.ref (He.ga K "_law_sheet")) = true) ∧ (PySem.W.nsIn K mainGlobals "_law_world" = some (some (.ref (He.ga K "_law_world")))) ∧ (PySem.W.keepIn K (.ref (He.ga K "_law_world")) = true) ∧ (PySem.W.nsIn K mainGlobals "_law_kept" = some (some (.ref (He.ga K "_law_kept")))) ∧ (PySem.W.keepIn K (.ref (He.ga K "_law_kept")) = true) ∧ (PySem.W.nsIn K mainGlobals "_law_sets" = some (some (.ref (He.ga K "_law_sets")))) ∧ (PySem.W.keepIn K (.ref (He.ga K "_law_sets")) = true)
abbrev Ex2 (K : PySem.W.Frag) : Prop := (PySem.W.nsIn K mainGlobals "_law_more" = some (some (.ref (He.ga K "_law_more")))) ∧ (PySem.W.keepIn K (.ref (He.ga K "_law_more")) = true) ∧ (PySem.W.nsIn K mainGlobals "_law_border" = some (some (.ref (He.ga K "_law_border")))) ∧ (PySem.W.keepIn K (.ref (He.ga K "_law_border")) = true) ∧ (PySem.W.nsIn K mainGlobals "_law_laps" = some (some (.ref (He.ga K "_law_laps")))) ∧ (PySem.W.keepIn K (.ref (He.ga K "_law_laps")) = true) ∧ (PySem.W.nsIn K mainGlobals "_law_group" = some (some (.ref (He.ga K "_law_group")))) ∧ (PySem.W.keepIn K (.ref (He.ga K "_law_group")) = true) ∧ (PySem.W.nsIn K mainGlobals "_law_key" = some (some (.ref (He.ga K "_law_key")))) ∧ (PySem.W.keepIn K (.ref (He.ga K "_law_key")) = true) ∧ (PySem.W.nsIn K mainGlobals "_law_play" = some (some (.ref (He.ga K "_law_play")))) ∧ (PySem.W.keepIn K (.ref (He.ga K "_law_play")) = true)
abbrev Ex3 (K : PySem.W.Frag) : Prop := (PySem.W.nsIn K mainGlobals "_law_said" = some (some (.ref (He.ga K "_law_said")))) ∧ (PySem.W.keepIn K (.ref (He.ga K "_law_said")) = true) ∧ (PySem.W.nsIn K mainGlobals "_law_is_row" = some (some (.ref (He.ga K "_law_is_row")))) ∧ (PySem.W.keepIn K (.ref (He.ga K "_law_is_row")) = true) ∧ (PySem.W.nsIn K mainGlobals "_law_bent_row" = some (some (.ref (He.ga K "_law_bent_row")))) ∧ (PySem.W.keepIn K (.ref (He.ga K "_law_bent_row")) = true) ∧ (PySem.W.nsIn K mainGlobals "_law_any_row" = some (some (.ref (He.ga K "_law_any_row")))) ∧ (PySem.W.keepIn K (.ref (He.ga K "_law_any_row")) = true) ∧ (PySem.W.nsIn K mainGlobals "_law_right" = some (some (.ref (He.ga K "_law_right")))) ∧ (PySem.W.keepIn K (.ref (He.ga K "_law_right")) = true) ∧ (PySem.W.nsIn K mainGlobals "law" = some (some (.ref (He.ga K "law")))) ∧ (PySem.W.keepIn K (.ref (He.ga K "law")) = true)
abbrev Ex4 (K : PySem.W.Frag) : Prop := (PySem.W.nsIn K mainGlobals "is_number" = some (some (.ref (He.ga K "is_number")))) ∧ (PySem.W.keepIn K (.ref (He.ga K "is_number")) = true) ∧ (PySem.W.nsIn K mainGlobals "is_number_from" = some (some (.ref (He.ga K "is_number_from")))) ∧ (PySem.W.keepIn K (.ref (He.ga K "is_number_from")) = true) ∧ (PySem.W.nsIn K mainGlobals "is_name" = some (some (.ref (He.ga K "is_name")))) ∧ (PySem.W.keepIn K (.ref (He.ga K "is_name")) = true) ∧ (PySem.W.nsIn K mainGlobals "is_share" = some (some (.ref (He.ga K "is_share")))) ∧ (PySem.W.keepIn K (.ref (He.ga K "is_share")) = true) ∧ (PySem.W.nsIn K mainGlobals "keeps_all" = some (some (.ref (He.ga K "keeps_all")))) ∧ (PySem.W.keepIn K (.ref (He.ga K "keeps_all")) = true) ∧ (PySem.W.nsIn K mainGlobals "are_kept" = some (some (.ref (He.ga K "are_kept")))) ∧ (PySem.W.keepIn K (.ref (He.ga K "are_kept")) = true)
abbrev Ex5 (K : PySem.W.Frag) : Prop := (PySem.W.nsIn K mainGlobals "is_kept" = some (some (.ref (He.ga K "is_kept")))) ∧ (PySem.W.keepIn K (.ref (He.ga K "is_kept")) = true) ∧ (PySem.W.nsIn K mainGlobals "_are_members" = some (some (.ref (He.ga K "_are_members")))) ∧ (PySem.W.keepIn K (.ref (He.ga K "_are_members")) = true) ∧ (PySem.W.nsIn K mainGlobals "check_lot" = some (some (.ref (He.ga K "check_lot")))) ∧ (PySem.W.keepIn K (.ref (He.ga K "check_lot")) = true) ∧ (PySem.W.nsIn K mainGlobals "check_round" = some (some (.ref (He.ga K "check_round")))) ∧ (PySem.W.keepIn K (.ref (He.ga K "check_round")) = true) ∧ (PySem.W.nsIn K mainGlobals "fits" = some (some (.ref (He.ga K "fits")))) ∧ (PySem.W.keepIn K (.ref (He.ga K "fits")) = true) ∧ (PySem.W.nsIn K mainGlobals "_read_hands" = some (some (.ref (He.ga K "_read_hands")))) ∧ (PySem.W.keepIn K (.ref (He.ga K "_read_hands")) = true)
abbrev Ex6 (K : PySem.W.Frag) : Prop := (PySem.W.nsIn K mainGlobals "_read_works" = some (some (.ref (He.ga K "_read_works")))) ∧ (PySem.W.keepIn K (.ref (He.ga K "_read_works")) = true) ∧ (PySem.W.nsIn K mainGlobals "_read_work" = some (some (.ref (He.ga K "_read_work")))) ∧ (PySem.W.keepIn K (.ref (He.ga K "_read_work")) = true) ∧ (PySem.W.nsIn K mainGlobals "_read_number" = some (some (.ref (He.ga K "_read_number")))) ∧ (PySem.W.keepIn K (.ref (He.ga K "_read_number")) = true) ∧ (PySem.W.nsIn K mainGlobals "_span_of" = some (some (.ref (He.ga K "_span_of")))) ∧ (PySem.W.keepIn K (.ref (He.ga K "_span_of")) = true) ∧ (PySem.W.nsIn K mainGlobals "_total_of" = some (some (.ref (He.ga K "_total_of")))) ∧ (PySem.W.keepIn K (.ref (He.ga K "_total_of")) = true) ∧ (PySem.W.nsIn K mainGlobals "accepts" = some (some (.ref (He.ga K "accepts")))) ∧ (PySem.W.keepIn K (.ref (He.ga K "accepts")) = true)
abbrev Ex7 (K : PySem.W.Frag) : Prop := (PySem.W.nsIn K mainGlobals "_has_table" = some (some (.ref (He.ga K "_has_table")))) ∧ (PySem.W.keepIn K (.ref (He.ga K "_has_table")) = true) ∧ (PySem.W.nsIn K mainGlobals "_has_no_table" = some (some (.ref (He.ga K "_has_no_table")))) ∧ (PySem.W.keepIn K (.ref (He.ga K "_has_no_table")) = true) ∧ (PySem.W.nsIn K mainGlobals "_is_empty" = some (some (.ref (He.ga K "_is_empty")))) ∧ (PySem.W.keepIn K (.ref (He.ga K "_is_empty")) = true) ∧ (PySem.W.nsIn K mainGlobals "_lot_of" = some (some (.ref (He.ga K "_lot_of")))) ∧ (PySem.W.keepIn K (.ref (He.ga K "_lot_of")) = true) ∧ (PySem.W.nsIn K mainGlobals "Lot" = some (some (.ref (He.ga K "Lot")))) ∧ (PySem.W.findIn K (.ref (He.ga K "Lot")) "__init__" = some (some (.ref (He.ma K (He.ga K "Lot") "__init__")))) ∧ (PySem.W.keepIn K (.ref (He.ma K (He.ga K "Lot") "__init__")) = true) ∧ (PySem.W.isFn K (.ref (He.ma K (He.ga K "Lot") "__init__")) = true)
abbrev Ex8 (K : PySem.W.Frag) : Prop := (PySem.W.plainGet K (He.ga K "Lot") Str.empty = true) ∧ (PySem.W.hasDictIn K (He.ga K "Lot") = true) ∧ (PySem.W.plainOver K (He.ga K "Lot") = true) ∧ (PySem.W.findIn K (.ref (He.ga K "Lot")) "__setattr__" = some (some (.builtin "object.__setattr__"))) ∧ (PySem.W.makesIn K (He.ga K "Lot") = true) ∧ (PySem.W.keepIn K (.ref (He.ga K "Lot")) = true) ∧ (PySem.W.findIn K (.ref (He.ga K "Lot")) "__class__" = some (some (.builtin "object.__class__"))) ∧ (PySem.W.specialIn K (.builtin "object.__class__") "__get__" = some (some (.builtin "getset_descriptor.__get__"))) ∧ (PySem.W.takesIn K (.builtin "object.__class__") = some true) ∧ (PySem.W.mroIn K (He.ga K "Lot") (.type "object") = some true) ∧ (PySem.W.findIn K (.ref (He.ga K "Lot")) "_text" = some none) ∧ (PySem.W.findIn K (.ref (He.ga K "Lot")) "_hands" = some none)
abbrev Ex9 (K : PySem.W.Frag) : Prop := (PySem.W.findIn K (.ref (He.ga K "Lot")) "_names" = some none) ∧ (PySem.W.findIn K (.ref (He.ga K "Lot")) "_shares" = some none) ∧ (PySem.W.findIn K (.ref (He.ga K "Lot")) "_span" = some none) ∧ (PySem.W.findIn K (.ref (He.ga K "Lot")) "_total" = some none) ∧ (PySem.W.findIn K (.ref (He.ga K "Lot")) "shares" = some (some (.ref (He.ma K (He.ga K "Lot") "shares")))) ∧ (PySem.W.recIn K (He.ma K (He.ga K "Lot") "shares") "property" = some (.ref (getAd K (He.ma K (He.ga K "Lot") "shares")) :: (restAd K (He.ma K (He.ga K "Lot") "shares")))) ∧ (PySem.W.specialIn K (.ref (He.ma K (He.ga K "Lot") "shares")) "__get__" = some (some (.builtin "property.__get__"))) ∧ (PySem.W.takesIn K (.ref (He.ma K (He.ga K "Lot") "shares")) = some true) ∧ (PySem.W.keepIn K (.ref (getAd K (He.ma K (He.ga K "Lot") "shares"))) = true) ∧ (PySem.W.findIn K (.ref (He.ga K "Lot")) "span" = some (some (.ref (He.ma K (He.ga K "Lot") "span")))) ∧ (PySem.W.recIn K (He.ma K (He.ga K "Lot") "span") "property" = some (.ref (getAd K (He.ma K (He.ga K "Lot") "span")) :: (restAd K (He.ma K (He.ga K "Lot") "span")))) ∧ (PySem.W.specialIn K (.ref (He.ma K (He.ga K "Lot") "span")) "__get__" = some (some (.builtin "property.__get__")))
abbrev Ex10 (K : PySem.W.Frag) : Prop := (PySem.W.takesIn K (.ref (He.ma K (He.ga K "Lot") "span")) = some true) ∧ (PySem.W.keepIn K (.ref (getAd K (He.ma K (He.ga K "Lot") "span"))) = true) ∧ (PySem.W.findIn K (.ref (He.ga K "Lot")) "hands" = some (some (.ref (He.ma K (He.ga K "Lot") "hands")))) ∧ (PySem.W.recIn K (He.ma K (He.ga K "Lot") "hands") "property" = some (.ref (getAd K (He.ma K (He.ga K "Lot") "hands")) :: (restAd K (He.ma K (He.ga K "Lot") "hands")))) ∧ (PySem.W.specialIn K (.ref (He.ma K (He.ga K "Lot") "hands")) "__get__" = some (some (.builtin "property.__get__"))) ∧ (PySem.W.takesIn K (.ref (He.ma K (He.ga K "Lot") "hands")) = some true) ∧ (PySem.W.keepIn K (.ref (getAd K (He.ma K (He.ga K "Lot") "hands"))) = true) ∧ (PySem.W.findIn K (.ref (He.ga K "Lot")) "total" = some (some (.ref (He.ma K (He.ga K "Lot") "total")))) ∧ (PySem.W.recIn K (He.ma K (He.ga K "Lot") "total") "property" = some (.ref (getAd K (He.ma K (He.ga K "Lot") "total")) :: (restAd K (He.ma K (He.ga K "Lot") "total")))) ∧ (PySem.W.specialIn K (.ref (He.ma K (He.ga K "Lot") "total")) "__get__" = some (some (.builtin "property.__get__"))) ∧ (PySem.W.takesIn K (.ref (He.ma K (He.ga K "Lot") "total")) = some true) ∧ (PySem.W.keepIn K (.ref (getAd K (He.ma K (He.ga K "Lot") "total"))) = true)
abbrev Ex11 (K : PySem.W.Frag) : Prop := (PySem.W.nsIn K mainGlobals "LOOKS" = some (some (.ref (He.ga K "LOOKS")))) ∧ (PySem.W.nsIn K mainGlobals "LENGTHS" = some (some (.ref (He.ga K "LENGTHS")))) ∧ (PySem.W.nsIn K (He.ga K "LOOKS") "fits" = some (some (.ref (He.ga K "_has_table")))) ∧ (intIn70 K (He.ga K "LENGTHS") "fits" 1 = true) ∧ (PySem.W.nsIn K (He.ga K "LOOKS") "over" = some (some (.ref (He.ga K "_has_no_table")))) ∧ (intIn70 K (He.ga K "LENGTHS") "over" 1 = true) ∧ (PySem.W.nsIn K mainGlobals "TooMany" = some (some (.ref (He.ga K "TooMany")))) ∧ (PySem.W.nsIn K mainGlobals "WrongValue" = some (some (.ref (He.ga K "WrongValue")))) ∧ (PySem.W.specialIn K (.builtin "object.__class__") "__get__" = some (some (.builtin "getset_descriptor.__get__"))) ∧ (PySem.W.takesIn K (.builtin "object.__class__") = some true) ∧ (PySem.W.excInitIn K (He.ga K "TooMany") [.type "ArithmeticError", .type "Exception", .type "BaseException", .type "object"] "ArithmeticError.__new__" = true) ∧ (PySem.W.excOver K (He.ga K "TooMany") [.type "ArithmeticError", .type "Exception", .type "BaseException", .type "object"] = true)
abbrev Ex12 (K : PySem.W.Frag) : Prop := (PySem.W.findIn K (.ref (He.ga K "TooMany")) "__setattr__" = some (some (.builtin "object.__setattr__"))) ∧ (PySem.W.findIn K (.ref (He.ga K "TooMany")) "__getattribute__" = some (some (.builtin "BaseException.__getattribute__"))) ∧ (PySem.W.findIn K (.ref (He.ga K "TooMany")) "__getattr__" = some none) ∧ (PySem.W.findIn K (.ref (He.ga K "TooMany")) "__class__" = some (some (.builtin "object.__class__"))) ∧ (PySem.W.findIn K (.ref (He.ga K "TooMany")) "limit" = some none) ∧ (PySem.W.subIn K (.ref (He.ga K "TooMany")) (.type "BaseException") = some true) ∧ (PySem.W.typeIn K (.ref (He.ga K "TooMany")) = some (.type "type")) ∧ (PySem.W.keepIn K (.ref (He.ga K "TooMany")) = true) ∧ (PySem.W.isClsIn K (He.ga K "TooMany") = true) ∧ (PySem.W.mroIn K (He.ga K "TooMany") (.type "object") = some true) ∧ (PySem.W.hasDictIn K (He.ga K "TooMany") = true) ∧ (PySem.W.findIn K (.ref (He.ga K "TooMany")) "__init__" = some (some (.ref (He.ma K (He.ga K "TooMany") "__init__"))))
abbrev Ex13 (K : PySem.W.Frag) : Prop := (PySem.W.keepIn K (.ref (He.ma K (He.ga K "TooMany") "__init__")) = true) ∧ (PySem.W.typeIn K (.ref (He.ma K (He.ga K "TooMany") "__init__")) = some (.type "function")) ∧ (PySem.W.exmAny K (.ref (He.ga K "TooMany")) [.ref (He.ga K "WrongValue"), .ref (He.ga K "TooMany")] = some true) ∧ (PySem.W.nsIn K mainGlobals "MOST_WORKS" = some (some (.int 6 (tokAd K "MOST_WORKS")))) ∧ (PySem.W.nsIn K mainGlobals "MOST_HANDS" = some (some (.int 6 (tokAd K "MOST_HANDS")))) ∧ (PySem.W.nsIn K mainGlobals "MOST_PERIOD" = some (some (.int 16 (tokAd K "MOST_PERIOD")))) ∧ (PySem.W.nsIn K mainGlobals "LONGEST_NAME" = some (some (.int 8 (tokAd K "LONGEST_NAME")))) ∧ (PySem.W.nsIn K mainGlobals "LETTERS" = some (some (.str (Str.ofString "abcdefghijklmnopqrstuvwxyz") (tokAd K "LETTERS")))) ∧ (PySem.W.nsIn K mainGlobals "MOST_ROUND" = some (some (.int 720 (tokAd K "MOST_ROUND")))) ∧ (PySem.W.nsIn K mainGlobals "len" = some none) ∧ (PySem.W.nsIn K mainGlobals "range" = some none) ∧ (PySem.W.nsIn K mainGlobals "abs" = some none)
abbrev Ex14 (K : PySem.W.Frag) : Prop := (PySem.W.nsIn K mainGlobals "divmod" = some none) ∧ (PySem.W.nsIn K mainGlobals "int" = some none) ∧ (PySem.W.nsIn K mainGlobals "str" = some none) ∧ (PySem.W.nsIn K mainGlobals "bool" = some none) ∧ (PySem.W.nsIn K mainGlobals "repr" = some none) ∧ (PySem.W.nsIn K mainGlobals "isinstance" = some none) ∧ (PySem.W.nsIn K mainGlobals "tuple" = some none) ∧ (PySem.W.nsIn K mainGlobals "list" = some none) ∧ (PySem.W.nsIn K mainGlobals "dict" = some none) ∧ (PySem.W.nsIn K mainGlobals "zip" = some none) ∧ (PySem.W.nsIn K mainGlobals "sum" = some none) ∧ (PySem.W.nsIn K mainGlobals "all" = some none)
abbrev Ex15 (K : PySem.W.Frag) : Prop := (PySem.W.nsIn K mainGlobals "max" = some none) ∧ (PySem.W.nsIn K mainGlobals "min" = some none) ∧ (PySem.W.nsIn K mainGlobals "sorted" = some none) ∧ (PySem.W.nsIn K mainGlobals "set" = some none) ∧ (PySem.W.nsIn K mainGlobals "enumerate" = some none) ∧ (PySem.W.nsIn K mainGlobals "gcd" = some (some (.builtin "math.gcd"))) ∧ (PySem.W.nsIn K mainGlobals "lcm" = some (some (.builtin "math.lcm")))
def exF (K : PySem.W.Frag) : Bool := decide (Ex0 K) && (decide (Ex1 K) && (decide (Ex2 K) && (decide (Ex3 K) && (decide (Ex4 K) && (decide (Ex5 K) && (decide (Ex6 K) && (decide (Ex7 K) && (decide (Ex8 K) && (decide (Ex9 K) && (decide (Ex10 K) && (decide (Ex11 K) && (decide (Ex12 K) && (decide (Ex13 K) && (decide (Ex14 K) && (decide (Ex15 K))))))))))))))))
def tfF : List (PySem.W.Frag → Addr × Addr) := []
def tsF : List He.Tab := [(fun K => He.ga K "LOOKS", ["fits", "over", "misses", "rule", "plan", "no plan", "share"]), (fun K => He.ga K "LENGTHS", ["fits", "over", "misses", "rule", "plan", "no plan", "share"])]
def nmF0 : List Str := ["_wall", "WrongValue", "InvalidText", "InvalidRule", "NotALot", "InvalidLates", "InvalidCounts", "InvalidLog", "WrongName", "UnknownName", "NoAnswer", "TooMany", "Alone", "MOST_WORKS", "MOST_HANDS", "MOST_PERIOD", "MOST_ROUND", "MOST_COUNTS", "MOST_LATES", "MOST_LOG"]
def nmF1 : List Str := ["MOST_RUN", "LETTERS", "LONGEST_NAME", "is_number", "is_number_from", "is_name", "is_share", "keeps_all", "are_kept", "is_kept", "_are_members", "Lot", "fits", "check_lot", "check_name", "check_round", "_read_hands", "_read_works", "_read_work", "_read_number"]
def nmF2 : List Str := ["_text_of", "_span_of", "_total_of", "begin_of", "border_of", "overlaps_of", "group_border_of", "_quotient_up", "_rank_by_nearest", "_rank_by_overlap", "_rank_by_keen", "_rank_by_behind", "RANKINGS", "all_picks", "RULES", "is_rule", "check_rule", "MOST_LATE_TURN", "MOST_LATE_BY", "check_lates"]
def nmF3 : List Str := ["_is_late", "first_miss", "_late_by", "_order_of", "check_counts", "check_log", "accepts", "_has_table", "_has_no_table", "_misses_first", "_misses_nothing", "_has_plan", "_has_no_plan", "_has_share", "_lot_of", "_is_empty", "_are_standings", "_is_standing", "_all_behind", "LOOKS"]
def nmF4 : List Str := ["LENGTHS", "_law_bag", "_law_take", "_law_of", "_law_whole", "_law_common", "_law_share", "_law_sum", "_law_circle", "_law_sheet", "_law_world", "_law_kept", "_law_sets", "_law_more", "_law_border", "_law_laps", "_law_group", "_law_key", "_law_play", "_law_said"]
def nmF5 : List Str := ["_law_is_row", "_law_bent_row", "_law_any_row", "_law_right"]
def nmF : List Str := nmF0 ++ nmF1 ++ nmF2 ++ nmF3 ++ nmF4 ++ nmF5
abbrev rwF : PySem.W.OpenRow := PySem.W.OpenLaw.row PySem.Challenge.rw_tickshares_k67_whole_tables_judged
abbrev vwF : Program := PySem.W.view rwF.prog [0, 119]
def asF0 : List Addr := [3, 6, 4, 49, 66, 86, 105, 124, 143, 162, 181, 200, 220, 239, 259, 278, 287, 294, 299, 306, 313, 318, 325, 332, 439, 450, 457, 464, 471, 478, 485, 490, 497, 502, 509, 514, 521, 528, 535, 542]
def asF1 : List Addr := [549, 556, 563, 570, 577, 578, 583, 584, 591, 598, 605, 612, 617, 622, 627, 634, 641, 648, 655, 662, 669, 676, 683, 688, 693, 700, 707, 714, 719, 724, 725, 726, 733, 740, 747, 754, 761, 768, 775, 782]
def asF2 : List Addr := [787, 792, 799, 804, 809, 816, 823, 830, 837, 842, 849, 854, 859, 864, 869, 874, 0, 48, 65, 85, 104, 123, 142, 161, 180, 199, 219, 238, 258, 277, 286, 293, 298, 305, 312, 317, 324, 331, 438, 449]
def asF3 : List Addr := [456, 463, 470, 477, 484, 489, 496, 501, 508, 513, 520, 527, 534, 541, 548, 555, 562, 569, 576, 582, 590, 597, 604, 611, 616, 621, 626, 633, 640, 647, 654, 661, 668, 675, 682, 687, 692, 699, 706, 713]
def asF4 : List Addr := [718, 723, 732, 739, 746, 753, 760, 767, 774, 781, 786, 791, 798, 803, 808, 815, 822, 829, 836, 841, 848, 853, 858, 863, 868, 873, 43, 44, 45, 46, 47, 63, 64, 67, 83, 84, 102, 103, 121, 122]
def asF5 : List Addr := [140, 141, 159, 160, 178, 179, 197, 198, 201, 217, 218, 236, 237, 240, 256, 257, 275, 276, 281, 282, 283, 284, 285, 288, 289, 290, 291, 292, 295, 296, 297, 300, 301, 302, 303, 304, 307, 308, 309, 310]
def asF6 : List Addr := [311, 314, 315, 316, 319, 320, 321, 322, 323, 326, 327, 328, 329, 330, 346, 354, 362, 370, 378, 386, 394, 401, 408, 415, 422, 429, 436, 437, 440, 441, 444, 445, 446, 447, 448, 451, 452, 453, 454, 455]
def asF7 : List Addr := [458, 459, 460, 461, 462, 465, 466, 467, 468, 469, 472, 473, 474, 475, 476, 479, 480, 481, 482, 483, 486, 487, 488, 491, 492, 493, 494, 495, 498, 499, 500, 503, 504, 505, 506, 507, 510, 511, 512, 515]
def asF8 : List Addr := [516, 517, 518, 519, 522, 523, 524, 525, 526, 529, 530, 531, 532, 533, 536, 537, 538, 539, 540, 543, 544, 545, 546, 547, 550, 551, 552, 553, 554, 557, 558, 559, 560, 561, 564, 565, 566, 567, 568, 571]
def asF9 : List Addr := [572, 573, 574, 575, 579, 580, 581, 585, 586, 587, 588, 589, 592, 593, 594, 595, 596, 599, 600, 601, 602, 603, 606, 607, 608, 609, 610, 613, 614, 615, 618, 619, 620, 623, 624, 625, 628, 629, 630, 631]
def asF10 : List Addr := [632, 635, 636, 637, 638, 639, 642, 643, 644, 645, 646, 649, 650, 651, 652, 653, 656, 657, 658, 659, 660, 663, 664, 665, 666, 667, 670, 671, 672, 673, 674, 677, 678, 679, 680, 681, 684, 685, 686, 689]
def asF11 : List Addr := [690, 691, 694, 695, 696, 697, 698, 701, 702, 703, 704, 705, 708, 709, 710, 711, 712, 715, 716, 717, 720, 721, 722, 727, 728, 729, 730, 731, 734, 735, 736, 737, 738, 741, 742, 743, 744, 745, 748, 749]
def asF12 : List Addr := [750, 751, 752, 755, 756, 757, 758, 759, 762, 763, 764, 765, 766, 769, 770, 771, 772, 773, 776, 777, 778, 779, 780, 783, 784, 785, 788, 789, 790, 793, 794, 795, 796, 797, 800, 801, 802, 805, 806, 807]
def asF13 : List Addr := [810, 811, 812, 813, 814, 817, 818, 819, 820, 821, 824, 825, 826, 827, 828, 831, 832, 833, 834, 835, 838, 839, 840, 843, 844, 845, 846, 847, 850, 851, 852, 855, 856, 857, 860, 861, 862, 865, 866, 867]
def asF14 : List Addr := [870, 871, 872, 62, 82, 101, 120, 139, 158, 177, 196, 216, 235, 255, 274, 345, 353, 361, 369, 377, 385, 393, 400, 407, 414, 421, 428, 435, 57, 58, 59, 60, 61, 77, 78, 79, 80, 81, 96, 97]
def asF15 : List Addr := [98, 99, 100, 115, 116, 117, 118, 119, 134, 135, 136, 137, 138, 153, 154, 155, 156, 157, 172, 173, 174, 175, 176, 191, 192, 193, 194, 195, 211, 212, 213, 214, 215, 230, 231, 232, 233, 234, 250, 251]
def asF16 : List Addr := [252, 253, 254, 269, 270, 271, 272, 273, 340, 341, 342, 343, 344, 352, 360, 368, 376, 384, 392, 395, 396, 397, 398, 399, 402, 403, 404, 405, 406, 409, 410, 411, 412, 413, 416, 417, 418, 419, 420, 423]
def asF17 : List Addr := [424, 425, 426, 427, 430, 431, 432, 433, 434, 347, 348, 349, 350, 351, 355, 356, 357, 358, 359, 363, 364, 365, 366, 367, 371, 372, 373, 374, 375, 379, 380, 381, 382, 383, 387, 388, 389, 390, 391]
def asF : List Addr := asF0 ++ asF1 ++ asF2 ++ asF3 ++ asF4 ++ asF5 ++ asF6 ++ asF7 ++ asF8 ++ asF9 ++ asF10 ++ asF11 ++ asF12 ++ asF13 ++ asF14 ++ asF15 ++ asF16 ++ asF17
--RUN
set_option maxHeartbeats 0 in
theorem runA_false (w : World) : (topF rwF 20000 (w.withFollow "special-get-raises" false)).map (fun x => (HandSHeadRun.looksF rwF.prog x.1.heap x.2.abs, HandSHeadRun.seenQ vwF nmF (importedModules rwF.prog.main.body) (fun s => PySem.W.xlAt vwF [] s && PySem.W.recOk rwF.toRowW.records s) x.2.abs)) = some (true, PySem.W.openGood vwF nmF) := by
  kernel_rfl
set_option maxHeartbeats 0 in
theorem runB_false (w : World) : (topF rwF 20000 (w.withFollow "special-get-raises" false)).map (fun x => viewW asF fnF tfF exF tsF (HandSHeadRun.getT x.2)) = some (dueW fnF tsF (w.withFollow "special-get-raises" false)) := by
  kernel_rfl
set_option maxHeartbeats 0 in
theorem run_false (w : World) : HandSHeadRun.RunEqI rwF vwF (hookW asF fnF tfF exF tsF) (fun s => viewW asF fnF tfF exF tsF (HandSHeadRun.getT s)) 20000 nmF (w.withFollow "special-get-raises" false) := run_two (runA_false w) (runB_false w)
set_option maxHeartbeats 0 in
theorem runA_true (w : World) : (topF rwF 20000 (w.withFollow "special-get-raises" true)).map (fun x => (HandSHeadRun.looksF rwF.prog x.1.heap x.2.abs, HandSHeadRun.seenQ vwF nmF (importedModules rwF.prog.main.body) (fun s => PySem.W.xlAt vwF [] s && PySem.W.recOk rwF.toRowW.records s) x.2.abs)) = some (true, PySem.W.openGood vwF nmF) := by
  kernel_rfl
set_option maxHeartbeats 0 in
theorem runB_true (w : World) : (topF rwF 20000 (w.withFollow "special-get-raises" true)).map (fun x => viewW asF fnF tfF exF tsF (HandSHeadRun.getT x.2)) = some (dueW fnF tsF (w.withFollow "special-get-raises" true)) := by
  kernel_rfl
set_option maxHeartbeats 0 in
theorem run_true (w : World) : HandSHeadRun.RunEqI rwF vwF (hookW asF fnF tfF exF tsF) (fun s => viewW asF fnF tfF exF tsF (HandSHeadRun.getT s)) 20000 nmF (w.withFollow "special-get-raises" true) := run_two (runA_true w) (runB_true w)
set_option maxHeartbeats 0 in
theorem runF (w : World) : HandSHeadRun.RunEqI rwF vwF (hookW asF fnF tfF exF tsF) (fun s => viewW asF fnF tfF exF tsF (HandSHeadRun.getT s)) 20000 nmF w := PySem.W.byRow2 "special-get-raises" (P := fun w => HandSHeadRun.RunEqI rwF vwF (hookW asF fnF tfF exF tsF) (fun s => viewW asF fnF tfF exF tsF (HandSHeadRun.getT s)) 20000 nmF w) run_false run_true w
end Ts
namespace Ts
open PySem PySem.Spec PyProof.Rows L2
section
variable {P : Program} {w : World} {K : PySem.W.Frag} {mg : Str → Option Value} {base : Heap}
theorem has_is_number_from (D : DefAt K mg "is_number_from" s_is_number_from) (B : Blt0 mg) : Has P w K mg base 1 "is_number_from" ["value", "low"] spIsNumberFrom := by
  refine D.has (fun _ _ _ _ _ _ us hl => match us, hl with | [_, _], _ => rfl) fun f fd F => F.ok sc_is_number_from (fun vs H Q E h => ?_) (fun cdv A outer s H vs Q E hr h => ?_)
  · obtain ⟨v, lo, rfl, _⟩ := h; rfl
  obtain ⟨v, lo, rfl, q⟩ := h
  refine ⟨_, (pss_one (ps_ret (pe_and (pe_callB call_isi (by rfl) B.zisinstance (by decide +kernel) (pa_cons (pv 0) (pa_cons (pe_ty "int" B.zint) pa_nil))) (pe_and (pe_not (pe_callB call_isi (by rfl) B.zisinstance (by decide +kernel) (pa_cons (pv 0) (pa_cons (pe_ty "bool" B.zbool) pa_nil)))) (pe_one (pe_cmpR op_le (pv 1) (pv 0) (nomark _))))))), ?_⟩
  refine ⟨_, rfl, _, _, _, _, _, rfl, .ty "int", .base (.int v), kit_ty (r := true) (by decide +kernel), true, rfl, ?_⟩
  refine iteT ⟨_, rfl, _, _, _, _, _, rfl, .ty "bool", .base (.int v), kit_ty (r := false) (by decide +kernel), false, rfl, true, rfl, ?_⟩
  refine iteT ⟨_, rfl, _, rfl, _, _, rfl, rfl, q⟩
theorem has_is_number (D : DefAt K mg "is_number" s_is_number) (B : Blt0 mg) (h_is_number_from : Has P w K mg base 1 "is_number_from" ["value", "low"] spIsNumberFrom) : Has P w K mg base 2 "is_number" ["value", "low", "high"] spIsNumber := by
  refine D.has (fun _ _ _ _ _ _ us hl => match us, hl with | [_, _, _], _ => rfl) fun f fd F => F.ok sc_is_number (fun vs H Q E h => ?_) (fun cdv A outer s H vs Q E hr h => ?_)
  · obtain ⟨v, lo, hi, rfl, _⟩ := h; rfl
  obtain ⟨v, lo, hi, rfl, q⟩ := h
  refine ⟨_, (pss_one (ps_ret (pe_and (pe_h h_is_number_from (hr.mono (by decide)) (pa_cons (pv 0) (pa_cons (pv 1) pa_nil))) (pe_one (pe_cmpR op_le (pv 0) (pv 2) (nomark _)))))), ?_⟩
  refine ⟨_, rfl, _, rfl, v, lo, rfl, ?_⟩
  refine ⟨decide (lo ≤ v), rfl, ?_⟩
  refine ite2 (fun c => ?_) (fun c => ?_)
  · refine ⟨_, rfl, _, rfl, _, _, rfl, rfl, ?_⟩
    have e : decide (v ≤ hi) = decide (lo ≤ v ∧ v ≤ hi) := by
      have := of_decide_eq_true c
      by_cases z : v ≤ hi <;> simp [z, this]
    show Q (V.bl (decide (v ≤ hi))) _
    rw [e]; exact q
  · have e : false = decide (lo ≤ v ∧ v ≤ hi) := by
      refine (decide_eq_false fun z => c (decide_eq_true z.1)).symm
    rw [e]; exact q
theorem has_is_name (D : DefAt K mg "is_name" s_is_name) (B : Blt0 mg) (C : Cst mg) : Has P w K mg base 1 "is_name" ["value"] spIsName := by
  refine D.has (fun _ _ _ _ _ _ us hl => match us, hl with | [_], _ => rfl) fun f fd F => F.ok sc_is_name (fun vs H Q E h => ?_) (fun cdv A outer s H vs Q E hr h => ?_)
  · obtain ⟨t, rfl, _⟩ := h; rfl
  obtain ⟨t, rfl, ht, q⟩ := h
  refine ⟨_, (pss_cons (ps_if (PW.pt (pw_or (pt_not (pt_val (pe_callB call_isi (by rfl) B.zisinstance (by decide +kernel) (pa_cons (pv 0) (pa_cons (pe_ty "str" B.zstr) pa_nil))))) (pw_or1 (pt_not (pt_chain op_le op_le pe_int (pe_callB call_len_str (by rfl) B.zlen (by decide +kernel) (pa_cons (pv 0) pa_nil)) (pe_gint C.LONGEST_NAME)))))) (pss_one (ps_ret pe_bl)) pss_nil)
      (pss_one (ps_ret (pe_callB (call_allB rfl) (by rfl) B.zall (by decide +kernel) (pa_cons (pe_lc (own := [("letter", 1)]) rfl sc_is_name.nd (pi_str (pv 0)) (blkOk_by (N := ["value", "letter"]) (sc := defScope s_is_name) (own := [("letter", 1)]) (by decide +kernel)) (fun _ _ _ _ _ => (pg_name (i := 1) sc_is_name.nd rfl (.inl rfl) (.inr rfl))) (fun _ _ _ _ _ => pts_nil) (fun _ _ _ _ _ => (pe_cmpR op_in_sign (pv 1) (pe_gstr C.LETTERS) (by rfl)))) pa_nil))))), ?_⟩
  have hl := ht.1
  have hl2 := ht.2.1
  refine ⟨_, rfl, _, _, _, _, _, rfl, .ty "str", .base (.str t), kit_ty (r := true) (by decide +kernel), true, rfl, ?_⟩
  refine iteF ⟨_, rfl, _, rfl, Nat.le_of_lt (small1000 (by omega)), _, _, rfl, rfl, _, rfl, ?_⟩
  have c1 : decide ((1 : Int) ≤ (t.length : Int)) = true := decide_eq_true (by omega)
  have c2 : decide ((t.length : Int) ≤ 8) = true := decide_eq_true (by omega)
  rw [c1]
  refine iteT ⟨_, _, rfl, rfl, _, rfl, ?_⟩
  rw [c2]
  refine iteF ?_
  refine ⟨_, rfl, _, rfl, fun D2 hD => lc_it walk_str (fun i H1 => Same H H1 ∧ H1 D2 = some (.lst ((List.replicate i true).map V.bl))) ⟨same_new hD, upd_same⟩ (fun _ _ _ _ => True.intro) ?_ ?_⟩
  · rintro i x H1 H1' hi ⟨sm, e1⟩ ⟨rfl, c, hc, rfl⟩
    refine ⟨rfl, yesIf ⟨_, rfl, _, _, rfl, rfl, _, e1, ?_, Same.app hD sm, ?_⟩⟩
    · rw [List.length_map, List.length_replicate]
      refine small1000 ?_
      have : t.cps.size = t.length := rfl
      omega
    · have hm : c ∈ t.cps.toList := List.mem_of_getElem? (by rw [Array.getElem?_toList]; exact hc)
      have hin : decide (c ∈ (Str.ofString "abcdefghijklmnopqrstuvwxyz").cps.toList) = true := decide_eq_true (abc_has (ht.2.2 c hm))
      rw [upd_same, hin, List.replicate_succ', List.map_append]; rfl
  · rintro H1 ⟨sm, e1⟩
    refine ⟨_, _, rfl, SqL.of e1, ?_⟩
    have e : (List.replicate t.cps.size true).all id = true := by simp
    rw [e]; exact q H1 sm
theorem has_is_share (D : DefAt K mg "is_share" s_is_share) (B : Blt mg) (C : Cst mg) (h_is_number : Has P w K mg base 2 "is_number" ["value", "low", "high"] spIsNumber) : Has P w K mg base 3 "is_share" ["value"] spIsShare := by
  refine D.has (fun _ _ _ _ _ _ us hl => match us, hl with | [_], _ => rfl) fun f fd F => F.ok sc_is_share (fun vs H Q E h => ?_) (fun cdv A outer s H vs Q E hr h => ?_)
  · obtain ⟨q, e, p, rfl, _⟩ := h; rfl
  obtain ⟨t, e, p, rfl, ht, ⟨p1, p2, p3, p4⟩, q⟩ := h
  refine ⟨_, (pss_cons (ps_if (PW.pt (pw_or (pt_not (pt_val (pe_callB call_isi (by rfl) B.zisinstance (by decide +kernel) (pa_cons (pv 0) (pa_cons (pe_ty "tuple" B.ztuple) pa_nil))))) (pw_or1 (pt_cmpR op_ne (pe_callB call_len_seq (by rfl) B.zlen (by decide +kernel) (pa_cons (pv 0) pa_nil)) pe_int (nomark _))))) (pss_one (ps_ret pe_bl)) pss_nil)
      (pss_cons (ps_asg (pv 0) (pg_tup rfl (pgs_cons (pg_name (i := 1) sc_is_share.nd rfl (.inl rfl)) (pgs_cons (pg_name (i := 2) sc_is_share.nd rfl (.inl rfl)) pgs_nil))))
      (pss_cons (ps_if (PW.pt (pw_or (pt_not (pt_val (pe_h h_is_number (hr.mono (by decide)) (pa_cons (pv 2) (pa_cons pe_int (pa_cons (pe_gint C.MOST_PERIOD) pa_nil)))))) (pw_or1 (pt_not (pt_val (pe_h h_is_number (hr.mono (by decide)) (pa_cons (pv 1) (pa_cons pe_int (pa_cons (pv 2) pa_nil))))))))) (pss_one (ps_ret pe_bl)) pss_nil)
      (pss_one (ps_ret (pe_cmpR op_eq (pe_callBfun cr_gcd (by rfl) B.g_gcd (pa_cons (pv 1) (pa_cons (pv 2) pa_nil))) pe_int (nomark _))))))), ?_⟩
  refine ⟨_, rfl, _, _, _, _, _, rfl, .ty "tuple", .base (.tup ht), kit_ty (r := true) (by decide +kernel), true, rfl, ?_⟩
  refine iteF ⟨_, rfl, t, _, rfl, .inr (SqT.of ht), rfl, _, rfl, iteF ?_⟩
  refine ⟨_, rfl, t, _, rfl, SqT.of ht, rfl, _, _, rfl, _, _, rfl, rfl, ?_⟩
  refine ⟨_, rfl, _, _, _, rfl, _, rfl, ?_⟩
  have c1 : decide ((1 : Int) ≤ (p : Int) ∧ (p : Int) ≤ 16) = true := decide_eq_true (by omega)
  have c2 : decide ((1 : Int) ≤ (e : Int) ∧ (e : Int) ≤ (p : Int)) = true := decide_eq_true (by omega)
  rw [c1]
  refine iteF ⟨_, rfl, _, rfl, _, _, _, rfl, _, rfl, ?_⟩
  rw [c2]
  refine iteF ⟨_, rfl, _, rfl, _, _, rfl, rfl, ?_⟩
  have e1 : ((Nat.gcd ((e : Int)).natAbs ((p : Int)).natAbs : Nat) : Int) = 1 := by simp [p4]
  rw [e1]; exact q
end
end Ts
namespace Ts
open PySem PySem.Spec PyProof.Rows L2
section
variable {P : Program} {w : World} {K : PySem.W.Frag} {mg : Str → Option Value} {base : Heap}
theorem has_read_number (D : DefAt K mg "_read_number" s__read_number) (B : Blt mg) : Has P w K mg base 1 "_read_number" ["word", "most"] spReadNumber := by
  refine D.has (fun _ _ _ _ _ _ us hl => match us, hl with | [_, _], _ => rfl) fun f fd F => F.ok sc__read_number (fun vs H Q E h => ?_) (fun cdv A outer s H vs Q E hr h => ?_)
  · obtain ⟨n, m, rfl, _⟩ := h; rfl
  obtain ⟨n, m, rfl, n1, nm, m1, q⟩ := h
  refine ⟨_, (pss_cons (ps_for PassesOwn.never rfl (pi_range2 (by rfl) B.zrange (pa_cons pe_int (pa_cons (pe_op op_add (pv 1) pe_int) pa_nil))) (pg_name (i := 2) sc__read_number.nd rfl (.inl rfl)) (pss_one (ps_if (pt_cmpR op_eq (pv 0) (pe_callTy call_str_int (by rfl) B.zstr (by decide +kernel) (pa_cons (pv 2) pa_nil)) (nomark _)) (pss_one (ps_ret (pv 2))) pss_nil)))
      (pss_one (ps_ret pe_non))), ?_⟩
  refine ⟨_, rfl, _, _, rfl, rfl, 1, (m : Int) + 1, rfl, ⟨by omega, by omega, by omega, by omega⟩, for_range (lo := 1) (n := ((m : Int) + 1 - 1).toNat) (fun i σ H' => H' = H ∧ i < n ∧ ∃ v, σ = [some (.str (numS n)), some (.int m), v]) ⟨rfl, by omega, _, rfl⟩ ?_ ?_⟩
  · rintro i σ H' hi ⟨rfl, hin, v, rfl⟩
    have ec : (1 : Int) + (i : Int) = ((1 + i : Nat) : Int) := by omega
    refine ⟨_, rfl, _, rfl, _, rfl, num_okI (by omega) (by omega), rfl, _, rfl, ite2 (fun c => ?_) (fun c => ?_)⟩
    · have e : numS n = numS (1 + i) := by
        have := of_decide_eq_true c
        rw [ec] at this
        exact V.str.inj this
      have e2 := numS_inj e
      refine ⟨_, rfl, ?_⟩
      show Q (V.int ((1 : Int) + (i : Int))) _
      rw [ec, ← e2]; exact q
    · refine ⟨rfl, ?_, _, rfl⟩
      have : n ≠ 1 + i := fun e => c (by
        refine decide_eq_true ?_
        rw [ec, ← e]; rfl)
      omega
  · rintro σ H' ⟨rfl, hin, v, rfl⟩
    omega
theorem has_read_hands (D : DefAt K mg "_read_hands" s__read_hands) (B : Blt mg) (C : Cst mg) (h__read_number : Has P w K mg base 1 "_read_number" ["word", "most"] spReadNumber) : Has P w K mg base 2 "_read_hands" ["row"] spReadHands := by
  refine D.has (fun _ _ _ _ _ _ us hl => match us, hl with | [_], _ => rfl) fun f fd F => F.ok sc__read_hands (fun vs H Q E h => ?_) (fun cdv A outer s H vs Q E hr h => ?_)
  · obtain ⟨n, rfl, _⟩ := h; rfl
  obtain ⟨n, rfl, n1, n6, q⟩ := h
  refine ⟨_, (pss_cons (ps_set (i := 1) sc__read_hands.nd rfl (.inl rfl) (pe_split (pv 0) pe_str))
      (pss_cons (ps_if (PW.pt (pw_or (pt_cmpR op_ne (pe_callB call_len_seq (by rfl) B.zlen (by decide +kernel) (pa_cons (pv 1) pa_nil)) pe_int (nomark _)) (pw_or1 (pt_cmpR op_ne (pe_ix ix_list (pv 1) pe_int (fun _ _ => rfl)) pe_str (nomark _))))) (pss_one (ps_ret pe_non)) pss_nil)
      (pss_one (ps_ret (pe_h h__read_number (hr.mono (by decide)) (pa_cons (pe_ix ix_list (pv 1) pe_int (fun _ _ => rfl)) (pa_cons (pe_gint C.MOST_HANDS) pa_nil))))))), ?_⟩
  have ln : (handsS n).length + 2 ≤ sizeLine := by
    have := numS_len (n := n) (by omega)
    have l6 : (Str.ofString "hands ").length = 6 := by decide
    refine Nat.le_of_lt (small1000 ?_)
    unfold handsS
    rw [Str.length_append, l6]; omega
  refine ⟨_, rfl, ⟨_, rfl⟩, _, _, rfl, rfl, by decide, ln, fun p hp => ?_⟩
  rw [hands_split]
  have s1 : Same H (upd H p (.lst ([Str.ofString "hands", numS n].map V.str))) := same_new hp
  have e1 : (upd H p (.lst ([Str.ofString "hands", numS n].map V.str))) p = some (.lst [.str (Str.ofString "hands"), .str (numS n)]) := upd_same
  generalize upd H p (.lst ([Str.ofString "hands", numS n].map V.str)) = H1 at s1 e1
  refine ⟨_, rfl, p, _, rfl, .inl (SqL.of e1), rfl, _, rfl, iteF ?_⟩
  refine ⟨_, rfl, p, _, 0, _, rfl, rfl, SqL.of e1, atI_nat (j := 0) rfl, rfl, _, rfl, iteNS rfl ?_⟩
  refine ⟨_, rfl, p, _, 1, _, rfl, rfl, SqL.of e1, atI_nat (j := 1) rfl, n, 6, rfl, n1, n6, by decide, q _ s1⟩
theorem has_read_work (D : DefAt K mg "_read_work" s__read_work) (B : Blt mg) (C : Cst mg) (h__read_number : Has P w K mg base 1 "_read_number" ["word", "most"] spReadNumber)
    (h_is_name : Has P w K mg base 1 "is_name" ["value"] spIsName) (h_is_share : Has P w K mg base 3 "is_share" ["value"] spIsShare) : Has P w K mg base 4 "_read_work" ["row"] spReadWork := by
  refine D.has (fun _ _ _ _ _ _ us hl => match us, hl with | [_], _ => rfl) fun f fd F => F.ok sc__read_work (fun vs H Q E h => ?_) (fun cdv A outer s H vs Q E hr h => ?_)
  · obtain ⟨j, rfl, _⟩ := h; rfl
  obtain ⟨j, rfl, ht, hg, q⟩ := h
  refine ⟨_, (pss_cons (ps_set (i := 1) sc__read_work.nd rfl (.inl rfl) (pe_split (pv 0) pe_str))
      (pss_cons (ps_if (PW.pt (pw_or (pt_cmpR op_ne (pe_callB call_len_seq (by rfl) B.zlen (by decide +kernel) (pa_cons (pv 1) pa_nil)) pe_int (nomark _)) (pw_or (pt_cmpR op_ne (pe_ix ix_list (pv 1) pe_int (fun _ _ => rfl)) pe_str (nomark _)) (pw_or1 (pt_not (pt_val (pe_h h_is_name (hr.mono (by decide)) (pa_cons (pe_ix ix_list (pv 1) pe_int (fun _ _ => rfl)) pa_nil)))))))) (pss_one (ps_ret pe_non)) pss_nil)
      (pss_cons (ps_set (i := 3) sc__read_work.nd rfl (.inl rfl) (pe_callTy call_tuple_of (by rfl) B.ztuple (by decide +kernel) (pa_cons (pe_lc (own := [("word", 2)]) rfl sc__read_work.nd (pi_list (pe_split (pe_ix ix_list (pv 1) pe_int (fun _ _ => rfl)) pe_str)) (blkOk_by (N := ["row", "words", "word", "share"]) (sc := defScope s__read_work) (own := [("word", 2)]) (by decide +kernel)) (fun _ _ _ _ _ => (pg_name (i := 2) sc__read_work.nd rfl (.inl rfl) (.inr rfl))) (fun _ _ _ _ _ => pts_nil) (fun _ _ _ _ _ => (pe_h h__read_number (hr.mono (by decide)) (pa_cons (pv 2) (pa_cons (pe_gint C.MOST_PERIOD) pa_nil))))) pa_nil)))
      (pss_cons (ps_if (pt_not (pt_val (pe_h h_is_share (hr.mono (by decide)) (pa_cons (pv 3) pa_nil)))) (pss_one (ps_ret pe_non)) pss_nil)
      (pss_one (ps_ret (pe_tup (pa_cons (pe_ix ix_list (pv 1) pe_int (fun _ _ => rfl)) (pa_cons (pv 3) pa_nil))))))))), ?_⟩
  have hg2 : GoodPart 1000 j.2.1 j.2.2 := ⟨hg.1, hg.2.1, Nat.le_trans hg.2.2.1 (by decide), hg.2.2.2⟩
  obtain ⟨g1, g2, g3, g4⟩ := id hg
  have ln : (rowS j).length + 2 ≤ sizeLine := Nat.le_of_lt (small1000 (by have := rowS_len ht hg2; omega))
  refine ⟨_, rfl, ⟨_, rfl⟩, _, _, rfl, rfl, by decide, ln, fun p hp => ?_⟩
  rw [row_split ht]
  generalize hw2 : Txt.join (Str.ofString "/") [numS j.2.1, numS j.2.2] = w2
  have s1 : Same H (upd H p (.lst ([Str.ofString "work", j.1, w2].map V.str))) := same_new hp
  have e1 : (upd H p (.lst ([Str.ofString "work", j.1, w2].map V.str))) p = some (.lst [.str (Str.ofString "work"), .str j.1, .str w2]) := upd_same
  generalize upd H p (.lst ([Str.ofString "work", j.1, w2].map V.str)) = H1 at s1 e1
  refine ⟨_, rfl, p, _, rfl, .inl (SqL.of e1), rfl, _, rfl, iteF ?_⟩
  refine ⟨_, rfl, p, _, 0, _, rfl, rfl, SqL.of e1, atI_nat (j := 0) rfl, rfl, _, rfl, iteNS rfl ?_⟩
  refine ⟨_, rfl, p, _, 1, _, rfl, rfl, SqL.of e1, atI_nat (j := 1) rfl, j.1, rfl, ht, fun H2 s2 => ⟨true, rfl, iteF ?_⟩⟩
  have e2 := s2 _ _ e1
  -- the share's two sides
  have l2 : w2.length + 2 ≤ sizeLine := by
    rw [← hw2, join_two, Str.length_append, Str.length_append]
    have a := numS_len (n := j.2.1) (by omega)
    have b := numS_len (n := j.2.2) (by omega)
    have c : (Str.ofString "/").length = 1 := by decide
    exact Nat.le_of_lt (small1000 (by omega))
  refine ⟨_, rfl, p, _, 2, _, rfl, rfl, SqL.of e2, atI_nat (j := 2) rfl, ⟨_, rfl⟩, _, _, rfl, rfl, by decide, l2, fun p3 hp3 => ?_⟩
  rw [← hw2, part_split]
  have s3 : Same H2 (upd H2 p3 (.lst ([numS j.2.1, numS j.2.2].map V.str))) := same_new hp3
  have e3 : (upd H2 p3 (.lst ([numS j.2.1, numS j.2.2].map V.str))) p3 = some (.lst [.str (numS j.2.1), .str (numS j.2.2)]) := upd_same
  generalize upd H2 p3 (.lst ([numS j.2.1, numS j.2.2].map V.str)) = H3 at s3 e3
  refine ⟨p3, rfl, ⟨_, SqL.of e3⟩, fun D4 hD4 => lc_list (K := K) (a := p3) (xs := [.str (numS j.2.1), .str (numS j.2.2)]) (fun i H4 => Same H3 H4 ∧ H4 D4 = some (.lst (([(j.2.1 : Int), (j.2.2 : Int)].take i).map V.int))) ⟨same_new hD4, upd_same⟩ (fun _ _ _ z => SqL.of (z.1 _ _ e3)) ?_ ?_⟩
  · rintro i x H4 hx ⟨s4, e4⟩
    match i, hx with
    | 0, hx =>
      obtain rfl : V.str (numS j.2.1) = x := Option.some.inj hx
      exact ⟨rfl, yesIf ⟨_, rfl, j.2.1, 16, rfl, g1, by omega, by decide, _, e4, by show 0 < sizeLine; decide, Same.app hD4 s4, upd_same⟩⟩
    | 1, hx =>
      obtain rfl : V.str (numS j.2.2) = x := Option.some.inj hx
      exact ⟨rfl, yesIf ⟨_, rfl, j.2.2, 16, rfl, by omega, g3, by decide, _, e4, by show 1 < sizeLine; decide, Same.app hD4 s4, upd_same⟩⟩
  rintro H4 ⟨s4, e4⟩
  have e4 : H4 D4 = some (.lst [.int (j.2.1 : Int), .int (j.2.2 : Int)]) := e4
  refine ⟨D4, _, rfl, .inl ⟨SqL.of e4, fun p5 hp5 => ?_⟩⟩
  have s5 : Same H4 (upd H4 p5 (.tup [.int (j.2.1 : Int), .int (j.2.2 : Int)])) := same_new hp5
  have e5 : (upd H4 p5 (.tup [.int (j.2.1 : Int), .int (j.2.2 : Int)])) p5 = some (.tup [.int (j.2.1 : Int), .int (j.2.2 : Int)]) := upd_same
  generalize upd H4 p5 (.tup [.int (j.2.1 : Int), .int (j.2.2 : Int)]) = H5 at s5 e5
  refine ⟨_, rfl, p5, _, _, rfl, e5, hg, true, rfl, iteF ?_⟩
  have e6 := s5 _ _ (s4 _ _ (s3 _ _ e2))
  refine ⟨_, rfl, p, _, 1, _, rfl, rfl, SqL.of e6, atI_nat (j := 1) rfl, _, rfl, by show 2 ≤ sizeLine; decide, fun p6 hp6 => ?_⟩
  exact q p6 p5 _ ((s1.trans (s2.trans (s3.trans (s4.trans s5)))).trans (same_new hp6)) upd_same (same_new hp6 _ _ e5)
end
end Ts
namespace Ts
open PySem PySem.Spec PyProof.Rows L2
section
variable {P : Program} {w : World} {K : PySem.W.Frag} {mg : Str → Option Value} {base : Heap}
theorem not_again {js : List Job} {i : Nat} {j y : Job} (h : (js.map (·.1)).Nodup) (hj : js[i]? = some j) (hy : y ∈ js.take i) (e : y.1 = j.1) : False := by
  have h2 : (js.take (i + 1)).map (·.1) = (js.take i).map (·.1) ++ [j.1] := map_take_succ _ hj
  have h3 : ((js.take (i + 1)).map (·.1)).Nodup := by rw [List.map_take]; exact h.sublist (List.take_sublist _ _)
  rw [h2] at h3
  exact (List.nodup_append.mp h3).2.2 y.1 (List.mem_map_of_mem hy) j.1 (by simp) e
theorem parts_cast (js : List Job) (t : Nat) : (js.map fun j => ((j.2.1 * (t / j.2.2) : Nat) : Int)).sum = ((partsN js t : Nat) : Int) := by
  unfold partsN
  induction js with
  | nil => rfl
  | cons j js ih =>
    rw [List.map_cons, List.map_cons, List.sum_cons, List.sum_cons, ih]
    omega
theorem has_read_works (D : DefAt K mg "_read_works" s__read_works) (B : Blt mg) (h__read_work : Has P w K mg base 4 "_read_work" ["row"] spReadWork) : Has P w K mg base 5 "_read_works" ["rows"] (spReadWorks K) := by
  refine D.has (fun _ _ _ _ _ _ us hl => match us, hl with | [_], _ => rfl) fun f fd F => F.ok sc__read_works (fun vs H Q E h => ?_) (fun cdv A outer s H vs Q E hr h => ?_)
  · obtain ⟨a, js, rfl, _⟩ := h; rfl
  obtain ⟨a, js, rfl, hS, G, hl, q⟩ := h
  have hu := hu_of hr
  refine ⟨_, (pss_cons (ps_set (i := 1) sc__read_works.nd rfl (.inl rfl) pe_dnewK)
      (pss_cons (ps_for PassesOwn.never rfl (pi_list (pv 0)) (pg_name (i := 2) sc__read_works.nd rfl (.inl rfl)) (pss_cons (ps_set (i := 3) sc__read_works.nd rfl (.inl rfl) (pe_h h__read_work (hr.mono (by decide)) (pa_cons (pv 2) pa_nil)))
      (pss_cons (ps_if (PW.pt (pw_or (pt_cmpR op_isN (pv 3) pe_non (nomark _)) (pw_or1 (pt_cmp (pc_din hu (pe_ix ix_tup (pv 3) pe_int (fun _ _ => rfl)) (pv 1)))))) (pss_one (ps_ret pe_non)) pss_nil)
      (pss_one (ps_dput hu (pv 1) (pe_ix ix_tup (pv 3) pe_int (fun _ _ => rfl)) (pe_ix ix_tup (pv 3) pe_int (fun _ _ => rfl)) rfl)))))
      (pss_one (ps_ret (pv 1))))), ?_⟩
  refine fun d hd => ?_
  have s1 : Same H (upd H d (.dK [])) := same_new hd
  have lx : ((js.map rowS).map V.str).length = js.length := by rw [List.length_map, List.length_map]
  refine ⟨_, rfl, a, rfl, ⟨_, s1.seq hS⟩, for_list (K := K) (a := a) (xs := (js.map rowS).map V.str) (fun i σ H2 => Same H H2 ∧ ∃ (kvs : List (Key × V)) (v1 v2 : Option V), H2 d = some (.dK kvs) ∧ KvsOf K (hid d H2) kvs (js.take i) ∧ σ = [some (.ref a), some (.ref d), v1, v2])
    ⟨s1, [], _, _, upd_same, ⟨rfl, .nil⟩, rfl⟩ (fun _ _ _ _ z => z.1.seq hS) ?_ ?_⟩
  · rintro i x σ H2 hx ⟨sm, kvs, v1, v2, e2, ⟨k1, k2⟩, rfl⟩
    obtain ⟨j, hj, rfl⟩ : ∃ j, js[i]? = some j ∧ x = .str (rowS j) := by
      rw [List.map_map, List.getElem?_map] at hx
      cases e : js[i]? with
      | none => rw [e] at hx; cases hx
      | some j => rw [e] at hx; exact ⟨j, rfl, (Option.some.inj hx).symm⟩
    have hjm : j ∈ js := List.mem_of_getElem? hj
    have hil : i < js.length := (List.getElem?_eq_some_iff.mp hj).1
    refine ⟨_, rfl, j, rfl, G.tag j hjm, G.part j hjm, fun p pq H3 s3 ep eq => ?_⟩
    have e3 := s3 _ _ e2
    have npd : p ≠ d := ne_of ep e3 (by intro z; cases z)
    have nqd : pq ≠ d := ne_of eq e3 (by intro z; cases z)
    -- is it none, or there already
    refine ⟨_, rfl, rfl, _, rfl, iteF ?_⟩
    have kl : kvs.length = i := by
      have := congrArg List.length k1
      rw [List.length_map, List.length_map, List.length_take] at this
      omega
    have hnew : valV kvs (Sum.inr j.1 : Key) = none := by
      cases z : valV kvs (Sum.inr j.1 : Key) with
      | none => rfl
      | some v =>
        have hm := valV_in z
        rw [k1] at hm
        obtain ⟨y, hy, e⟩ := List.mem_map.mp hm
        exact (not_again G.nd hj hy (Sum.inr.inj e)).elim
    refine ⟨_, rfl, p, _, 0, _, rfl, rfl, SqT.of ep, atI_nat (j := 0) rfl, _, rfl, d, _, rfl, DGet.k (k := Sum.inr j.1) e3, _, rfl, ?_⟩
    rw [hnew]
    refine iteF ?_
    refine ⟨_, rfl, p, _, 1, _, rfl, rfl, SqT.of ep, atI_nat (j := 1) rfl, _, rfl, _, rfl, p, _, 0, _, rfl, rfl, SqT.of ep, atI_nat (j := 0) rfl, d, _, rfl, DPut.k (k := Sum.inr j.1) e3 (small1000 (by omega)), ?_⟩
    have s4 : Same H (upd H3 d (.dK (putK kvs (Sum.inr j.1) (.ref pq)))) := Same.app hd (sm.trans s3)
    refine ⟨s4, _, _, _, upd_same, ?_, rfl⟩
    rw [putK_new _ hnew]
    refine ⟨?_, ?_⟩
    · rw [List.map_append, k1, map_take_succ _ hj]; rfl
    · rw [List.map_append, map_take_succ _ hj]
      refine (k2.mono fun b o z => ?_).snoc ?_
      · obtain ⟨z1, z2⟩ := hid_some z
        rw [hid_ne z1, upd_ne z1]
        exact s3 _ _ z2
      · exact .tup (SqT.of (by rw [hid_ne nqd, upd_ne nqd]; exact eq)) (.cons (.int _) (.cons (.int _) .nil))
  · rintro σ H2 ⟨sm, kvs, v1, v2, e2, kk, rfl⟩
    rw [lx, List.take_length] at kk
    exact ⟨_, rfl, q d kvs H2 sm hd e2 ⟨kk.1, kk.2.mono hid_sub⟩⟩
theorem has_span_of (D : DefAt K mg "_span_of" s__span_of) (B : Blt mg) : Has P w K mg base 1 "_span_of" ["shares"] (spSpanOf K) := by
  refine D.has (fun _ _ _ _ _ _ us hl => match us, hl with | [_], _ => rfl) fun f fd F => F.ok sc__span_of (fun vs H Q E h => ?_) (fun cdv A outer s H vs Q E hr h => ?_)
  · obtain ⟨a, xs, js, rfl, _⟩ := h; rfl
  obtain ⟨a, xs, js, rfl, hS, hA, G, q⟩ := h
  refine ⟨_, (pss_cons (ps_set (i := 1) sc__span_of.nd rfl (.inl rfl) pe_int)
      (pss_cons (ps_for PassesOwn.never rfl (pi_tup (pv 0)) (pg_tup rfl (pgs_cons (pg_name (i := 2) sc__span_of.nd rfl (.inl rfl)) (pgs_cons (pg_name (i := 3) sc__span_of.nd rfl (.inl rfl)) pgs_nil))) (pss_one (ps_set (i := 1) sc__span_of.nd rfl (.inl rfl) (pe_callBfun cr_lcm (by rfl) B.g_lcm (pa_cons (pv 1) (pa_cons (pv 3) pa_nil))))))
      (pss_one (ps_ret (pv 1))))), ?_⟩
  have lx : xs.length = js.length := by rw [hA.length]; exact List.length_map _
  refine ⟨_, rfl, a, rfl, ⟨_, hS⟩, for_tup (K := K) (a := a) (xs := xs) (fun i σ H2 => H2 = H ∧ ∃ (v1 v2 : Option V), σ = [some (.ref a), some (.int (spanN (js.take i))), v1, v2]) ⟨rfl, _, _, rfl⟩ (fun _ _ _ _ z => z.1 ▸ hS) ?_ ?_⟩
  · rintro i x σ H2 hx ⟨rfl, v1, v2, rfl⟩
    obtain ⟨d, hd, hv⟩ := hA.get hx
    unfold sharesD at hd
    rw [List.getElem?_map] at hd
    cases ej : js[i]? with
    | none => rw [ej] at hd; cases hd
    | some j =>
      rw [ej] at hd
      have ed : partD j.2.1 j.2.2 = d := Option.some.inj hd
      subst ed
      obtain ⟨b, ys, rfl, hb, hy⟩ := hv.tuple
      obtain ⟨y1, y2, rfl, h1, h2⟩ := hy.two
      have hjm : j ∈ js := List.mem_of_getElem? ej
      obtain ⟨g1, g2, g3, _⟩ := G.part j hjm
      have gt : Good 16 (js.take i) := ⟨by rw [List.map_take]; exact G.nd.sublist (List.take_sublist _ _), fun k hk => G.tag k (List.mem_of_mem_take hk), fun k hk => G.part k (List.mem_of_mem_take hk)⟩
      have sl := span_le gt
      have en : spanN (js.take (i + 1)) = Nat.lcm (spanN (js.take i)) j.2.2 := by
        unfold spanN
        rw [List.take_add_one, ej, List.foldl_append]; rfl
      refine ⟨b, _, rfl, hb, rfl, _, _, rfl, _, _, rfl, rfl, _, rfl, _, rfl, spanN (js.take i), j.2.2, ?_, by omega, by omega, rfl, some y1, some y2, ?_⟩
      · rw [h2.int_eq]
      · rw [en]; rfl
  · rintro σ H2 ⟨rfl, v1, v2, rfl⟩
    rw [lx, List.take_length]
    exact ⟨_, rfl, q _ (Same.refl _)⟩
theorem has_total_of (D : DefAt K mg "_total_of" s__total_of) (B : Blt mg) : Has P w K mg base 1 "_total_of" ["shares", "span"] (spTotalOf K) := by
  refine D.has (fun _ _ _ _ _ _ us hl => match us, hl with | [_, _], _ => rfl) fun f fd F => F.ok sc__total_of (fun vs H Q E h => ?_) (fun cdv A outer s H vs Q E hr h => ?_)
  · obtain ⟨a, xs, js, rfl, _⟩ := h; rfl
  obtain ⟨a, xs, js, rfl, hS, hA, G, hl, q⟩ := h
  refine ⟨_, (pss_cons (ps_set (i := 4) sc__total_of.nd rfl (.inl rfl) (pe_callB (cr_sum rfl) (by rfl) B.zsum (by decide +kernel) (pa_cons (pe_lc (own := [("top", 2), ("bottom", 3)]) rfl sc__total_of.nd (pi_tup (pv 0)) (blkOk_by (N := ["shares", "span", "top", "bottom", "parts", "common"]) (sc := defScope s__total_of) (own := [("top", 2), ("bottom", 3)]) (by decide +kernel)) (fun _ _ _ _ _ => (pg_tupK (K := K) (n := 2) rfl rfl (pgs_cons (pg_name (i := 2) sc__total_of.nd rfl (.inl rfl) (.inr rfl)) (pgs_cons (pg_name (i := 3) sc__total_of.nd rfl (.inl rfl) (.inr rfl)) pgs_nil)))) (fun _ _ _ _ _ => pts_nil) (fun _ _ _ _ _ => (pe_op op_mul (pv 2) (pe_op op_fdiv (pv 1) (pv 3))))) pa_nil)))
      (pss_cons (ps_set (i := 5) sc__total_of.nd rfl (.inl rfl) (pe_callBfun cr_gcd (by rfl) B.g_gcd (pa_cons (pv 4) (pa_cons (pv 1) pa_nil))))
      (pss_one (ps_ret (pe_tup (pa_cons (pe_op op_fdiv (pv 4) (pv 5)) (pa_cons (pe_op op_fdiv (pv 1) (pv 5)) pa_nil))))))), ?_⟩
  have lx : xs.length = js.length := by rw [hA.length]; exact List.length_map _
  have sp := span_pos G
  have sl := span_le G
  refine ⟨_, rfl, a, rfl, ⟨_, hS⟩, fun D2 hD => lc_tup (K := K) (a := a) (xs := xs) (fun i H2 => Same H H2 ∧ H2 D2 = some (.lst (((js.take i).map fun j => ((j.2.1 * (spanN js / j.2.2) : Nat) : Int)).map V.int))) ⟨same_new hD, upd_same⟩ (fun _ _ _ z => sameT z.1 hS) ?_ ?_⟩
  · rintro i x H2 hx ⟨sm, e2⟩
    obtain ⟨d, hd, hv⟩ := hA.get hx
    unfold sharesD at hd
    rw [List.getElem?_map] at hd
    cases ej : js[i]? with
    | none => rw [ej] at hd; cases hd
    | some j =>
      rw [ej] at hd
      have ed : partD j.2.1 j.2.2 = d := Option.some.inj hd
      subst ed
      obtain ⟨b, ys, rfl, hb, hy⟩ := hv.tuple
      obtain ⟨y1, y2, rfl, h1, h2⟩ := hy.two
      have hjm : j ∈ js := List.mem_of_getElem? ej
      obtain ⟨g1, g2, g3, _⟩ := G.part j hjm
      have y1' := h1.int_eq
      have y2' := h2.int_eq
      subst y1' y2'
      have cd : CDiv (spanN js : Int) (j.2.2 : Int) := ⟨by omega, by omega⟩
      refine ⟨b, _, rfl, sameT sm hb, rfl, _, _, rfl, _, _, rfl, rfl, rfl, yesIf ?_⟩
      refine ⟨_, rfl, _, rfl, _, rfl, _, _, rfl, rfl, cd, _, _, rfl, rfl, .inl ⟨by omega, by omega⟩, _, e2, ?_, Same.app hD sm, ?_⟩
      · rw [List.length_map, List.length_map, List.length_take]
        exact small1000 (by omega)
      · rw [upd_same, map_take_succ _ ej, List.map_append]
        rfl
  · rintro H2 ⟨sm, e2⟩
    rw [lx, List.take_length] at e2
    have es : (js.map fun j => ((j.2.1 * (spanN js / j.2.2) : Nat) : Int)).sum = (partsN js (spanN js) : Int) := by
      exact parts_cast js _
    refine ⟨_, _, rfl, SqL.of e2, ?_⟩
    rw [es]
    have g0 : 0 < Nat.gcd (partsN js (spanN js)) (spanN js) := Nat.gcd_pos_of_pos_right _ sp
    have g1 : Nat.gcd (partsN js (spanN js)) (spanN js) ≤ spanN js := Nat.le_of_dvd sp (Nat.gcd_dvd_right _ _)
    have c1 : CDiv (partsN js (spanN js) : Int) ((Nat.gcd (partsN js (spanN js)) (spanN js) : Nat) : Int) := ⟨by omega, by omega⟩
    have c2 : CDiv (spanN js : Int) ((Nat.gcd (partsN js (spanN js)) (spanN js) : Nat) : Int) := ⟨by omega, by omega⟩
    refine ⟨_, rfl, _, rfl, _, _, rfl, ?_⟩
    refine ⟨_, rfl, _, rfl, _, _, rfl, rfl, c1, _, rfl, _, rfl, _, _, rfl, rfl, c2, by show 2 ≤ sizeLine; decide, fun p hp => ?_⟩
    exact q p _ (sm.trans (same_new hp)) (sm.free hp) upd_same
end
end Ts
namespace Ts
open PySem PySem.Spec PyProof.Rows L2
section
variable {P : Program} {w : World} {K : PySem.W.Frag} {mg : Str → Option Value} {base : Heap}
theorem ok_init {f C : Addr} {fd : FuncData} (F : Fun K "__init__" "Lot.__init__" s_Lot___init__ f fd) (T : LotC K mg C) (B : Blt mg) (C2 : Cst mg) (h__read_hands : Has P w K mg base 2 "_read_hands" ["row"] spReadHands) (h__read_works : Has P w K mg base 5 "_read_works" ["rows"] (spReadWorks K))
    (h__span_of : Has P w K mg base 1 "_span_of" ["shares"] (spSpanOf K)) (h__total_of : Has P w K mg base 1 "_total_of" ["shares", "span"] (spTotalOf K)) : FnOk P w K mg base CX0 6 f fd ["self", "text"] (spInit K C) := by
  refine F.ok sc_Lot___init__ (fun vs H Q E h => ?_) (fun cdv A outer s H vs Q E hr h => ?_)
  · obtain ⟨a, dx, n, js, rfl, _⟩ := h; rfl
  obtain ⟨a, dx, n, js, rfl, ha, n1, n6, G, l0, l6, q⟩ := h
  refine ⟨_, (pss_cons (ps_if (pt_not (pt_val (pe_callB call_isi (by rfl) B.zisinstance (by decide +kernel) (pa_cons (pv 1) (pa_cons (pe_ty "str" B.zstr) pa_nil))))) (pss_one ps_never) pss_nil)
      (pss_cons (ps_asg (pe_split (pv 1) pe_str) (pg_star (i := 2) (j := 3) rfl sc_Lot___init__.nd rfl rfl rfl rfl))
      (pss_cons (ps_set (i := 4) sc_Lot___init__.nd rfl (.inl rfl) (pe_h h__read_hands (hr.mono (by decide)) (pa_cons (pv 2) pa_nil)))
      (pss_cons (ps_set (i := 5) sc_Lot___init__.nd rfl (.inl rfl) (pe_h h__read_works (hr.mono (by decide)) (pa_cons (pv 3) pa_nil)))
      (pss_cons (ps_if (PW.pt (pw_or (pt_cmpR op_isN (pv 4) pe_non (nomark _)) (pw_or (pt_cmpR op_isN (pv 5) pe_non (nomark _)) (pw_or1 (pt_not (pt_chain op_le op_le pe_int (pe_callB call_lenD (by rfl) B.zlen (by decide +kernel) (pa_cons (pv 5) pa_nil)) (pe_gint C2.MOST_WORKS))))))) (pss_one ps_never) pss_nil)
      (pss_cons (ps_fld (pv 0) (pv 1) rfl)
      (pss_cons (ps_fld (pv 0) (pv 4) rfl)
      (pss_cons (ps_fld (pv 0) (pe_callTy (call_tuple_dK rfl) (by rfl) B.ztuple (by decide +kernel) (pa_cons (pv 5) pa_nil)) rfl)
      (pss_cons (ps_fld (pv 0) (pe_tupVals rfl (by rfl) B.ztuple (pv 5)) rfl)
      (pss_cons (ps_fld (pv 0) (pe_h h__span_of (hr.mono (by decide)) (pa_cons (pe_fld (pv 0) rfl) pa_nil)) rfl)
      (pss_one (ps_fld (pv 0) (pe_h h__total_of (hr.mono (by decide)) (pa_cons (pe_fld (pv 0) rfl) (pa_cons (pe_fld (pv 0) rfl) pa_nil))) rfl)))))))))))), ?_⟩
  have G2 := G.mono (show 16 ≤ 1000 by decide)
  refine ⟨_, rfl, _, _, _, _, _, rfl, .ty "str", .base (.str _), kit_ty (r := true) (by decide +kernel), true, rfl, iteF ?_⟩
  -- the rows
  refine ⟨_, rfl, ⟨_, rfl⟩, _, _, rfl, rfl, by decide, Nat.le_of_lt (small1000 (page_len (by omega) G2 (by omega))), fun p hp => ?_⟩
  rw [show Txt.split (pageS n js) (Str.ofString "\n") = rowsOf n js from page_split G.tag]
  have s1 : Same H (upd H p (.lst ((rowsOf n js).map V.str))) := same_new hp
  have e1 : (upd H p (.lst ((rowsOf n js).map V.str))) p = some (.lst (.str (handsS n) :: (js.map rowS).map V.str)) := upd_same
  generalize upd H p (.lst ((rowsOf n js).map V.str)) = H1 at s1 e1
  refine ⟨p, _, _, rfl, SqL.of e1, by rw [List.length_map, List.length_map]; omega, fun p2 hp2 => ?_⟩
  have s2 : Same H1 (upd H1 p2 (.lst ((js.map rowS).map V.str))) := same_new hp2
  have e2 : (upd H1 p2 (.lst ((js.map rowS).map V.str))) p2 = some (.lst ((js.map rowS).map V.str)) := upd_same
  generalize upd H1 p2 (.lst ((js.map rowS).map V.str)) = H2 at s2 e2
  -- hands, works
  refine ⟨_, rfl, n, rfl, n1, n6, fun H3 s3 => ?_⟩
  refine ⟨_, rfl, p2, js, rfl, SqL.of (s3 _ _ e2), G, by omega, fun d kvs H4 s4 hd4 e4 ⟨k1, k2⟩ => ?_⟩
  have kl : kvs.length = js.length := by
    have := congrArg List.length k1
    rw [List.length_map, List.length_map] at this; exact this
  have s04 : Same H H4 := s1.trans (s2.trans (s3.trans s4))
  refine ⟨_, rfl, rfl, _, rfl, iteF ⟨_, rfl, rfl, _, rfl, iteF ?_⟩⟩
  refine ⟨_, rfl, d, kvs, rfl, e4, _, _, rfl, rfl, _, rfl, ?_⟩
  have c1 : decide ((1 : Int) ≤ (kvs.length : Int)) = true := decide_eq_true (by omega)
  have c2 : decide ((kvs.length : Int) ≤ 6) = true := decide_eq_true (by omega)
  rw [c1]
  refine iteT ⟨_, _, rfl, rfl, _, rfl, ?_⟩
  rw [c2]
  refine iteF ?_
  -- the fields
  have few : ∀ fs : List (Str × V), fs.length ≤ 6 → fs.length < 1000 := fun _ h => by omega
  have f0 : (([] : List (Str × V))).length ≤ 0 := Nat.le_refl _
  have f1 := putF_len "_text" (.str (pageS n js)) []
  have nda : d ≠ a := fun e => by rw [e] at hd4; exact absurd (s1.trans (s2.trans s3) _ _ ha) (by rw [hd4]; exact fun z => nomatch z)
  refine ⟨_, rfl, _, rfl, a, C, dx, _, rfl, s04 _ _ ha, T.cl, T.n1, by show 0 < 1000; decide, ?_⟩
  have b5 : But a H4 (upd H4 a (.ins C dx (putF "_text" (.str (pageS n js)) []))) := But.set
  have e5 : (upd H4 a (.ins C dx (putF "_text" (.str (pageS n js)) []))) a = some (.ins C dx (putF "_text" (.str (pageS n js)) [])) := upd_same
  generalize upd H4 a (.ins C dx (putF "_text" (.str (pageS n js)) [])) = H5 at b5 e5
  refine ⟨_, rfl, _, rfl, a, C, dx, _, rfl, e5, T.cl, T.n2, few _ (by omega), ?_⟩
  have f2 := putF_len "_hands" (.int n) (putF "_text" (.str (pageS n js)) [])
  have b6 : But a H5 (upd H5 a (.ins C dx (putF "_hands" (.int n) (putF "_text" (.str (pageS n js)) [])))) := But.set
  have e6 : (upd H5 a (.ins C dx (putF "_hands" (.int n) (putF "_text" (.str (pageS n js)) [])))) a = some (.ins C dx (putF "_hands" (.int n) (putF "_text" (.str (pageS n js)) []))) := upd_same
  generalize upd H5 a (.ins C dx (putF "_hands" (.int n) (putF "_text" (.str (pageS n js)) []))) = H6 at b6 e6
  generalize hF2 : putF "_hands" (.int n) (putF "_text" (.str (pageS n js)) []) = F2 at f2 e6
  have b46 := b5.trans b6
  -- tuple(works)
  have ed6 := b46 _ _ nda e4
  refine ⟨_, rfl, d, kvs, rfl, ed6, fun pn ob hpn ob1 ob2 => ?_⟩
  have nmap : (kvs.map fun kv => kV kv.1) = js.map (fun j => V.str j.1) := by
    have := congrArg (List.map kV) k1
    rw [List.map_map, List.map_map] at this
    exact this
  rw [nmap]
  have s7 : Same H6 (upd H6 pn (.frz ob (.tup (js.map fun j => V.str j.1)))) := same_new hpn
  have en7 : (upd H6 pn (.frz ob (.tup (js.map fun j => V.str j.1)))) pn = some (.frz ob (.tup (js.map fun j => V.str j.1))) := upd_same
  generalize upd H6 pn (.frz ob (.tup (js.map fun j => V.str j.1))) = H7 at s7 en7
  refine ⟨_, rfl, a, C, dx, _, rfl, s7 _ _ e6, T.cl, T.n3, few _ (by omega), ?_⟩
  have f3 := putF_len "_names" (.ref pn) F2
  have b8 : But a H7 (upd H7 a (.ins C dx (putF "_names" (.ref pn) F2))) := But.set
  have e8 : (upd H7 a (.ins C dx (putF "_names" (.ref pn) F2))) a = some (.ins C dx (putF "_names" (.ref pn) F2)) := upd_same
  have npn : pn ≠ a := ne_of en7 (s7 _ _ e6) (by intro z; cases z)
  generalize upd H7 a (.ins C dx (putF "_names" (.ref pn) F2)) = H8 at b8 e8
  generalize hF3 : putF "_names" (.ref pn) F2 = F3 at f3 e8
  have b48 := (b46.trans (But.of_same s7)).trans b8
  have en8 := b8 _ _ npn en7
  -- tuple(works.values())
  refine ⟨_, rfl, d, kvs, rfl, b48 _ _ nda e4, fun ps hps => ?_⟩
  have s9 : Same H8 (upd H8 ps (.tup (kvs.map (·.2)))) := same_new hps
  have es9 : (upd H8 ps (.tup (kvs.map (·.2)))) ps = some (.tup (kvs.map (·.2))) := upd_same
  generalize upd H8 ps (.tup (kvs.map (·.2))) = H9 at s9 es9
  refine ⟨_, rfl, a, C, dx, _, rfl, s9 _ _ e8, T.cl, T.n4, few _ (by omega), ?_⟩
  have f4 := putF_len "_shares" (.ref ps) F3
  have b10 : But a H9 (upd H9 a (.ins C dx (putF "_shares" (.ref ps) F3))) := But.set
  have e10 : (upd H9 a (.ins C dx (putF "_shares" (.ref ps) F3))) a = some (.ins C dx (putF "_shares" (.ref ps) F3)) := upd_same
  have nps : ps ≠ a := ne_of es9 (s9 _ _ e8) (by intro z; cases z)
  generalize upd H9 a (.ins C dx (putF "_shares" (.ref ps) F3)) = H10 at b10 e10
  have l4 : (putF "_shares" (.ref ps) F3).lookup ("_shares" : Str) = some (.ref ps) := by rw [lookup_putF, if_pos rfl]
  generalize hF4 : putF "_shares" (.ref ps) F3 = F4 at f4 e10 l4
  have b410 := (b48.trans (But.of_same s9)).trans b10
  have en10 := b10 _ _ npn (s9 _ _ en8)
  have es10 := b10 _ _ nps es9
  have hk4 : DpAll K (hid a H4) (kvs.map (·.2)) (sharesD js) := DpAll.hide (s04 _ _ ha) NoSeq.ins k2
  -- the round
  refine ⟨_, rfl, a, C, dx, _, _, rfl, e10, T.cl, T.n4, l4, ps, _, js, rfl, SqT.of es10, (hk4.mono b410.hid).mono hid_sub, G, fun H11 s11 => ?_⟩
  refine ⟨_, rfl, a, C, dx, _, rfl, s11 _ _ e10, T.cl, T.n5, few _ (by omega), ?_⟩
  have f5 := putF_len "_span" (.int (spanN js)) F4
  have b12 : But a H11 (upd H11 a (.ins C dx (putF "_span" (.int (spanN js)) F4))) := But.set
  have e12 : (upd H11 a (.ins C dx (putF "_span" (.int (spanN js)) F4))) a = some (.ins C dx (putF "_span" (.int (spanN js)) F4)) := upd_same
  generalize upd H11 a (.ins C dx (putF "_span" (.int (spanN js)) F4)) = H12 at b12 e12
  have l5 : (putF "_span" (.int (spanN js)) F4).lookup ("_span" : Str) = some (.int (spanN js)) := by rw [lookup_putF, if_pos rfl]
  have l6' : (putF "_span" (.int (spanN js)) F4).lookup ("_shares" : Str) = some (.ref ps) := by rw [lookup_putF, if_neg (by decide +kernel)]; exact l4
  generalize hF5 : putF "_span" (.int (spanN js)) F4 = F5 at f5 e12 l5 l6'
  have b412 := (b410.trans (But.of_same s11)).trans b12
  have en12 := b12 _ _ npn (s11 _ _ en10)
  have es12 := b12 _ _ nps (s11 _ _ es10)
  -- the sum
  refine ⟨_, rfl, a, C, dx, _, _, rfl, e12, T.cl, T.n4, l6', _, rfl, a, C, dx, _, _, rfl, e12, T.cl, T.n5, l5, ps, _, js, rfl, SqT.of es12, (hk4.mono b412.hid).mono hid_sub, G, by omega, fun pt H13 s13 hpt et => ?_⟩
  refine ⟨_, rfl, a, C, dx, _, rfl, s13 _ _ e12, T.cl, T.n6, few _ (by omega), ?_⟩
  have e13 := s13 _ _ e12
  have npt : pt ≠ a := ne_of et e13 (by intro z; cases z)
  have b14 : But a H4 (upd H13 a (.ins C dx (putF "_total" (.ref pt) F5))) := (b412.trans (But.of_same s13)).trans But.set
  refine q _ ((But.of_same s04).trans b14) ⟨dx, pn, ps, pt, ?_, ?_, ?_, ?_⟩
  · rw [upd_same, ← hF5, ← hF4, ← hF3, ← hF2]; rfl
  · have enf : (upd H13 a (.ins C dx (putF "_total" (.ref pt) F5))) pn = some (.frz ob (.tup (js.map fun j => V.str j.1))) := by rw [upd_ne npn]; exact s13 _ _ en12
    exact ⟨ob, enf, ob1, ob2⟩
  · have esf : (upd H13 a (.ins C dx (putF "_total" (.ref pt) F5))) ps = some (.tup (kvs.map (·.2))) := by rw [upd_ne nps]; exact s13 _ _ es12
    exact .tup (SqT.of esf) ((hk4.mono b14.hid).mono hid_sub)
  · have etf : (upd H13 a (.ins C dx (putF "_total" (.ref pt) F5))) pt = some (.tup [.int (totTop js : Int), .int (totBot js : Int)]) := by rw [upd_ne npt]; exact et
    exact .tup (SqT.of etf) (.cons (.int _) (.cons (.int _) .nil))
end
end Ts
namespace Ts
open PySem PySem.Spec PyProof.Rows L2
section
variable {P : Program} {w : World} {K : PySem.W.Frag} {mg : Str → Option Value} {base : Heap}
theorem has_check_lot {C : Addr} (D : DefAt K mg "check_lot" s_check_lot) (B : Blt mg) (T : LotC K mg C) (I : LotI K C) : Has P w K mg base 1 "check_lot" ["lot"] (spCheck C) := by
  refine D.has (fun _ _ _ _ _ _ us hl => match us, hl with | [_], _ => rfl) fun f fd F => F.ok sc_check_lot (fun vs H Q E h => ?_) (fun cdv A outer s H vs Q E hr h => ?_)
  · obtain ⟨a, dx, fs, rfl, _⟩ := h; rfl
  obtain ⟨a, dx, fs, rfl, ha, q⟩ := h
  refine ⟨_, (pss_one (ps_if (pt_not (pt_val (pe_callB call_isi (by rfl) B.zisinstance (by decide +kernel) (pa_cons (pv 0) (pa_cons (pe_gref T.mgC) pa_nil))))) (pss_one ps_never) pss_nil)), ?_⟩
  exact ⟨_, rfl, _, _, _, _, _, rfl, .own C, .base (.ins ha T.cl I.ha I.hn I.htk I.hm), kit_self, true, rfl, iteF q⟩
end
end Ts
namespace Ts
open PySem PySem.Spec PyProof.Rows L2
section
variable {P : Program} {w : World} {K : PySem.W.Frag} {mg : Str → Option Value} {base : Heap}
theorem ok_fits {C f : Addr} {fd : FuncData} (F : Fun K "fits" "fits" s_fits f fd) (T : LotC K mg C) (h_check_lot : Has P w K mg base 1 "check_lot" ["lot"] (spCheck C)) (p_total : PropH P w K mg base C "total" "_total") (p_hands : PropH P w K mg base C "hands" "_hands") :
    FnOk P w K mg base CX0 3 f fd ["lot"] (spFits K C) := by
  refine F.ok sc_fits (fun vs H Q E h => ?_) (fun cdv A outer s H vs Q E hr h => ?_)
  · obtain ⟨a, n, js, rfl, _⟩ := h; rfl
  obtain ⟨a, n, js, rfl, L, hn, G, q⟩ := h
  have hb := bot_le G
  obtain ⟨dx, pn, ps, pt, ha, h1, h2, h3⟩ := L.ex
  refine ⟨_, (pss_cons (ps_expr (pe_h h_check_lot (hr.mono (by decide)) (pa_cons (pv 0) pa_nil)))
      (pss_cons (ps_asg (pe_ph p_total T.cl (hr.mono (by decide)) (pv 0)) (pg_tup rfl (pgs_cons (pg_name (i := 1) sc_fits.nd rfl (.inl rfl)) (pgs_cons (pg_name (i := 2) sc_fits.nd rfl (.inl rfl)) pgs_nil))))
      (pss_one (ps_ret (pe_cmpR op_le (pv 1) (pe_op op_mul (pe_ph p_hands T.cl (hr.mono (by decide)) (pv 0)) (pv 2)) (nomark _)))))), ?_⟩
  obtain ⟨pt', xs, e, hS, hA⟩ := h3.tuple
  cases e
  obtain ⟨v, u, rfl, g1, g2⟩ := hA.two
  cases g1.int_eq
  cases g2.int_eq
  refine ⟨_, rfl, a, dx, _, rfl, ha, ?_⟩
  show tSeq _ _ _ _ _
  refine ⟨_, rfl, lot_get ha lot_total ?_⟩
  refine ⟨pt, _, rfl, hS, rfl, _, _, rfl, _, _, rfl, rfl, ?_⟩
  refine ⟨_, rfl, _, rfl, lot_get ha lot_hands ?_⟩
  exact ⟨_, rfl, _, _, rfl, rfl, .inl ⟨by omega, by omega⟩, _, _, rfl, rfl, q⟩
end
end Ts
namespace Ts
open PySem PySem.Spec PyProof.Rows L2 L2H LamX
section
variable {P : Program} {w : World} {K : PySem.W.Frag} {mg : Str → Option Value} {base : Heap}
theorem hx_check_round {C CY : Addr} (D : DefAt K mg "check_round" s_check_round) (T : LotC K mg C) (MR : ∃ t, mg "MOST_ROUND" = some (.int 720 t)) (p_span : PropH P w K mg base C "span" "_span") (T_TooMany : ErrB P w K mg base "TooMany" CY "limit") : HasX P w K mg base 3 "check_round" ["lot"] (spCheckRoundX K C CY) := by
  refine D.hasX (fun _ _ _ _ _ _ us hl => match us, hl with | [_], _ => rfl) fun f fd F => F.okX sc_check_round (fun vs H Q E h => ?_) (fun cdv A outer s H vs Q E hr h => ?_)
  · obtain ⟨a, n, js, rfl, _⟩ := h; rfl
  obtain ⟨a, n, js, rfl, L, q1, q2⟩ := h
  have tk := takes_of (X := cxOf (L2.CX P w) P w K mg base ["lot"] "check_round" (defScope s_check_round) f cdv A outer s H E) (E := E) rfl rfl rfl rfl
  refine ⟨_, (pss_one (ps_if (pt_cmpR op_gt (pe_ph p_span T.cl (hr.mono (by decide)) (pv 0)) (pe_gint MR) (nomark _)) (pss_one (ps_raise rfl tk (pmk_errB T_TooMany (hr.mono (by decide)) (pe_gint MR)))) pss_nil)), ?_⟩
  obtain ⟨dx, pn, ps, pt, ha, _⟩ := L.ex
  refine ⟨_, rfl, lot_get ha lot_span ?_⟩
  exact ⟨_, _, rfl, rfl, _, rfl, ite2 (fun c => mk_err fun d hd => q2 (by have := (of_decide_eq_true c : (720 : Int) < (spanN js : Int)); omega) H d (fun _ _ z => z) hd) (fun c => q1 (by have : ¬ (720 : Int) < (spanN js : Int) := fun z => c (decide_eq_true z); omega))⟩
end
end Ts
namespace Ts
open PySem PySem.Spec PyProof.Rows L2 L2H LamX
section
variable {P : Program} {w : World} {K : PySem.W.Frag} {mg : Str → Option Value} {base : Heap}
theorem has_is_number_fromA (D : DefAt K mg "is_number_from" s_is_number_from) (B : Blt0 mg) : Has P w K mg base 1 "is_number_from" ["value", "low"] (spIsNumberFromA K) := by
  refine D.has (fun _ _ _ _ _ _ us hl => match us, hl with | [_, _], _ => rfl) fun f fd F => F.ok sc_is_number_from (fun vs H Q E h => ?_) (fun cdv A outer s H vs Q E hr h => ?_)
  · obtain ⟨v, lo, o, rfl, _⟩ := h; rfl
  obtain ⟨v, lo, o, rfl, hv, q⟩ := h
  refine ⟨_, (pss_one (ps_ret (pe_and (pe_callB call_isi (by rfl) B.zisinstance (by decide +kernel) (pa_cons (pv 0) (pa_cons (pe_ty "int" B.zint) pa_nil))) (pe_and (pe_not (pe_callB call_isi (by rfl) B.zisinstance (by decide +kernel) (pa_cons (pv 0) (pa_cons (pe_ty "bool" B.zbool) pa_nil)))) (pe_one (pe_cmpR op_le (pv 1) (pv 0) (nomark _))))))), ?_⟩
  cases o with
  | some i =>
    cases hv
    refine ⟨_, rfl, _, _, _, _, _, rfl, .ty "int", .base (.int i), kit_ty (r := true) (by decide +kernel), true, rfl, ?_⟩
    refine iteT ⟨_, rfl, _, _, _, _, _, rfl, .ty "bool", .base (.int i), kit_ty (r := false) (by decide +kernel), false, rfl, true, rfl, ?_⟩
    exact iteT ⟨_, rfl, _, rfl, _, _, rfl, rfl, q⟩
  | none =>
    obtain ⟨T, hT, ht⟩ := hv
    by_cases tb : T = "bool"
    · subst tb
      refine ⟨_, rfl, _, _, _, _, _, rfl, .ty "int", ht, kit_ty (r := true) (by decide +kernel), true, rfl, ?_⟩
      exact iteT ⟨_, rfl, _, _, _, _, _, rfl, .ty "bool", ht, kit_ty (r := true) (by decide +kernel), true, rfl, false, rfl, iteF q⟩
    · have k : PySem.W.kitOne K (.type T) (.type "int") = some false := by
        have go : ∀ T ∈ ["bool", "str", "NoneType", "list", "tuple", "dict"], T ≠ "bool" → kitB T "int" = some false := by decide +kernel
        exact kit_ty (go T hT tb)
      exact ⟨_, rfl, _, _, _, _, _, rfl, .ty "int", ht, k, false, rfl, iteF q⟩
theorem has_is_numberA (D : DefAt K mg "is_number" s_is_number) (B : Blt0 mg) (h_is_number_from : Has P w K mg base 1 "is_number_from" ["value", "low"] (spIsNumberFromA K)) : Has P w K mg base 2 "is_number" ["value", "low", "high"] (spIsNumberA K) := by
  refine D.has (fun _ _ _ _ _ _ us hl => match us, hl with | [_, _, _], _ => rfl) fun f fd F => F.ok sc_is_number (fun vs H Q E h => ?_) (fun cdv A outer s H vs Q E hr h => ?_)
  · obtain ⟨v, lo, hi, o, rfl, _⟩ := h; rfl
  obtain ⟨v, lo, hi, o, rfl, hv, q⟩ := h
  refine ⟨_, (pss_one (ps_ret (pe_and (pe_h h_is_number_from (hr.mono (by decide)) (pa_cons (pv 0) (pa_cons (pv 1) pa_nil))) (pe_one (pe_cmpR op_le (pv 0) (pv 2) (nomark _)))))), ?_⟩
  refine ⟨_, rfl, _, rfl, v, lo, o, rfl, hv, ?_⟩
  cases o with
  | none => exact ⟨false, rfl, iteF q⟩
  | some i =>
    cases hv
    refine ⟨decide (lo ≤ i), rfl, ite2 (fun c => ?_) (fun c => ?_)⟩
    · refine ⟨_, rfl, _, rfl, _, _, rfl, rfl, ?_⟩
      have e : decide (i ≤ hi) = inRg (some i) lo hi := by
        have := of_decide_eq_true c
        show decide (i ≤ hi) = decide (lo ≤ i ∧ i ≤ hi)
        by_cases z : i ≤ hi <;> simp [z, this]
      rw [← e] at q
      exact q
    · have e : inRg (some i) lo hi = false := decide_eq_false fun z => c (decide_eq_true z.1)
      rw [e] at q; exact q
end
end Ts
namespace Ts
open PySem PySem.Spec PyProof.Rows L2 L2H LamX
section
variable {P : Program} {w : World} {K : PySem.W.Frag} {mg : Str → Option Value} {base : Heap}
theorem has_is_empty (D : DefAt K mg "_is_empty" s__is_empty) (B : Blt0 mg) : Has P w K mg base 1 "_is_empty" ["certificate"] (spIsEmpty K) := by
  refine D.has (fun _ _ _ _ _ _ us hl => match us, hl with | [_], _ => rfl) fun f fd F => F.ok sc__is_empty (fun vs H Q E h => ?_) (fun cdv A outer s H vs Q E hr h => ?_)
  · obtain ⟨v, e, rfl, _⟩ := h; rfl
  obtain ⟨v, e, rfl, hv, q⟩ := h
  refine ⟨_, (pss_one (ps_ret (pe_and (pe_callB call_isi (by rfl) B.zisinstance (by decide +kernel) (pa_cons (pv 0) (pa_cons (pe_ty "tuple" B.ztuple) pa_nil))) (pe_one (pe_cmpR op_eq (pe_callB call_len_seq (by rfl) B.zlen (by decide +kernel) (pa_cons (pv 0) pa_nil)) pe_int (nomark _)))))), ?_⟩
  cases e with
  | true =>
    obtain ⟨p, rfl, hS⟩ := hv
    refine ⟨_, rfl, _, _, _, _, _, rfl, .ty "tuple", SqT.ty hS, kit_ty (r := true) (by decide +kernel), ?_⟩
    exact ⟨true, rfl, iteT ⟨_, rfl, p, [], rfl, .inr hS, rfl, q⟩⟩
  | false =>
    rcases hv with ⟨p, xs, rfl, hS, hx⟩ | ⟨T, hT, ht⟩
    · refine ⟨_, rfl, _, _, _, _, _, rfl, .ty "tuple", SqT.ty hS, kit_ty (r := true) (by decide +kernel), ?_⟩
      refine ⟨true, rfl, iteT ⟨_, rfl, p, xs, rfl, .inr hS, rfl, ?_⟩⟩
      have e : decide (V.int (xs.length : Int) = V.int 0) = false := decide_eq_false fun z => hx (List.length_eq_zero_iff.mp (by have := V.int.inj z; omega))
      show Q (.bl (decide (V.int (xs.length : Int) = V.int 0))) H
      rw [e]; exact q
    · have go : ∀ T ∈ ["dict", "NoneType", "bool", "int", "str", "list"], kitB T "tuple" = some false := by decide +kernel
      exact ⟨_, rfl, _, _, _, _, _, rfl, .ty "tuple", ht, kit_ty (go T hT), false, rfl, iteF q⟩
theorem has_is_kept (D : DefAt K mg "is_kept" s_is_kept) (B : Blt0 mg) : Has P w K mg base 1 "is_kept" ["share", "moment", "number"] (spIsKept K) := by
  refine D.has (fun _ _ _ _ _ _ us hl => match us, hl with | [_, _, _], _ => rfl) fun f fd F => F.ok sc_is_kept (fun vs H Q E h => ?_) (fun cdv A outer s H vs Q E hr h => ?_)
  · obtain ⟨v, e, p, t, a, rfl, _⟩ := h; rfl
  obtain ⟨v, e, p, t, a, rfl, ⟨q9, rfl, hS⟩, h1, h2, h3, h4, q⟩ := h
  refine ⟨_, (pss_cons (ps_asg (pv 0) (pg_tup rfl (pgs_cons (pg_name (i := 3) sc_is_kept.nd rfl (.inl rfl)) (pgs_cons (pg_name (i := 4) sc_is_kept.nd rfl (.inl rfl)) pgs_nil))))
      (pss_one (ps_ret (pe_cmpR op_lt (pe_callB call_abs (by rfl) B.zabs (by decide +kernel) (pa_cons (pe_op op_sub (pe_op op_mul (pv 2) (pv 4)) (pe_op op_mul (pv 1) (pv 3))) pa_nil)) (pv 4) (nomark _))))), ?_⟩
  refine ⟨_, rfl, q9, _, rfl, hS, rfl, _, _, rfl, _, _, rfl, rfl, ?_⟩
  exact ⟨_, rfl, _, rfl, _, _, rfl, rfl, .inl ⟨h3, h4⟩, _, rfl, _, rfl, _, _, rfl, rfl, .inl ⟨h1, h2⟩, _, _, rfl, rfl, _, rfl, _, rfl, _, _, rfl, rfl, q⟩
theorem ok_accepts {f : Addr} {fd : FuncData} {WV TM AL AN fL : Addr} {word : Str} {n : Nat} {spL : Sp} {k : Nat} {esL : Array DictEntry} {nL : Nat} (F : Fun K "accepts" "accepts" s_accepts f fd) (B : Blt0 mg) (gWV : mg "WrongValue" = some (.ref WV)) (gTM : mg "TooMany" = some (.ref TM)) (gL : mg "LOOKS" = some (.ref AL)) (gN : mg "LENGTHS" = some (.ref AN))
    (KL : L2.KDict K w AL esL nL) (hIn : PySem.W.nsIn K AL word = some (some (.ref fL))) (dL : KDct K w AL word (.ref fL)) (dN : KDct K w AN word (.int n)) (hL : HeldX P w K mg base k fL spL) (hn9 : n ≤ 100) : FnOk P w K mg base CX0 (k + 1) f fd ["claim", "certificate"] (spAccW K WV TM word n spL) := by
  refine F.ok sc_accepts (fun vs H Q E h => ?_) (fun cdv A outer s H vs Q E hr h => ?_)
  · obtain ⟨q, vc, args, d, rfl, _⟩ := h; rfl
  obtain ⟨q9, vc, args, d, rfl, hS, hn, hsp, q⟩ := h
  have HS : ∀ f sp, (fun f : Addr => if f = fL then some spL else none) f = some sp → HeldX P w K mg base k f sp := fun f sp e => by
    dsimp only at e
    split at e
    · rename_i z; cases e; rw [z]; exact hL
    · cases e
  refine ⟨_, (pss_cons (ps_if (PW.pt (pw_or (pt_not (pt_val (pe_callB call_isi (by rfl) B.zisinstance (by decide +kernel) (pa_cons (pv 0) (pa_cons (pe_ty "tuple" B.ztuple) pa_nil))))) (pw_or1 (pt_cmpR op_eq (pe_callB call_len_seq (by rfl) B.zlen (by decide +kernel) (pa_cons (pv 0) pa_nil)) pe_int (nomark _))))) (pss_one (ps_ret pe_bl)) pss_nil)
      (pss_cons (ps_asg (pv 0) (pg_starT (i := 2) (j := 3) rfl sc_accepts.nd rfl rfl rfl rfl))
      (pss_cons (ps_if (PW.pt (pw_or (pt_not (pt_val (pe_callB call_isi (by rfl) B.zisinstance (by decide +kernel) (pa_cons (pv 2) (pa_cons (pe_ty "str" B.zstr) pa_nil))))) (pw_or (pt_cmpR (L2.op_notIn_kd KL) (pv 2) (pe_gref gL) (by rfl)) (pw_or1 (pt_cmpR op_ne (pe_callB call_len_seq (by rfl) B.zlen (by decide +kernel) (pa_cons (pv 3) pa_nil)) (pe_ix ix_kdict (pe_gref gN) (pv 2) (fun _ _ => rfl)) (nomark _)))))) (pss_one (ps_ret pe_bl)) pss_nil)
      (pss_cons (ps_set (i := 4) sc_accepts.nd rfl (.inl rfl) (pe_ix ix_kdict (pe_gref gL) (pv 2) (fun _ _ => rfl)))
      (pss_one (ps_try_pair (X := (cxOf CX0 P w K mg base ["claim", "certificate", "word", "told", "look"] "accepts" (defScope s_accepts) f cdv A outer s H E).nox) (tb := fun W => tRet (tCallLS 4 (fun f : Addr => if f = fL then some spL else none) W (tCons (tVar 1) (StX.tStar K (tVar 3) tNil)))) rfl rfl ⟨rfl, by decide, .inl gWV⟩ ⟨rfl, by decide, .inl gTM⟩ (fun W pn xe tk po => pss_one (ps_ret (pe_callLS (i := 4) HS (hr.mono (Nat.le_refl _)) tk rfl (.inl rfl) (pa_cons (pv 1) (StX.pa_star (pv 3) pa_nil))))) (fun a oe cls d pn hz hf => pss_one (ps_ret pe_bl)))))))), ?_⟩
  have ln : decide (V.int (((.str word :: args : List V).length : Nat) : Int) = V.int 0) = false := decide_eq_false fun z => by
    have := V.int.inj z
    rw [List.length_cons] at this
    omega
  refine ⟨_, rfl, _, _, _, _, _, rfl, .ty "tuple", SqT.ty hS, kit_ty (r := true) (by decide +kernel), true, rfl, ?_⟩
  refine iteF ⟨_, rfl, q9, _, rfl, .inr hS, rfl, _, rfl, ?_⟩
  rw [ln]
  refine iteF ⟨_, rfl, q9, .str word, args, rfl, hS, by omega, fun pl hpl => ?_⟩
  have s1 : Same H (upd H pl (.lst args)) := same_new hpl
  have e1 : (upd H pl (.lst args)) pl = some (.lst args) := upd_same
  revert s1 e1
  generalize upd H pl (.lst args) = H1
  intro s1 e1
  refine ⟨_, rfl, _, _, _, _, _, rfl, .ty "str", .base (.str word), kit_ty (r := true) (by decide +kernel), true, rfl, ?_⟩
  refine iteF ⟨_, rfl, word, _, rfl, rfl, hIn, _, rfl, iteF ?_⟩
  refine ⟨_, rfl, pl, _, rfl, .inl (SqL.of e1), _, rfl, AN, word, _, rfl, rfl, dN, ?_⟩
  have ln2 : decide (V.int ((args.length : Nat) : Int) = V.int (n : Int)) = true := decide_eq_true (by rw [hn])
  refine ⟨rfl, _, rfl, ?_⟩
  rw [ln2]
  refine iteF ⟨_, rfl, AL, word, _, rfl, rfl, dL, ?_⟩
  refine ⟨fL, spL, rfl, if_pos rfl, _, rfl, _, rfl, pl, args, rfl, .inr (SqL.of e1), ?_⟩
  show spL (vc :: (args ++ [])) H1 _ _
  rw [List.append_nil]
  exact hsp H1 s1 _ _ (fun H2 s2 => q H2 (s1.trans s2)) fun ed C dd H2 s2 hm => ⟨hm, fun a _ => by have := q H2 (s1.trans s2); rw [ed] at this; exact this⟩
end
end Ts
namespace Ts
open PySem PySem.Spec PyProof.Rows L2 L2H LamX
section
variable {P : Program} {w : World} {K : PySem.W.Frag} {mg : Str → Option Value} {base : Heap}
theorem has_members (D : DefAt K mg "_are_members" s__are_members) (B : Blt0 mg) (h_is_number : Has P w K mg base 2 "is_number" ["value", "low", "high"] (spIsNumberA K)) : Has P w K mg base 3 "_are_members" ["value", "many", "most"] (spMembers K) := by
  refine D.has (fun _ _ _ _ _ _ us hl => match us, hl with | [_, _, _], _ => rfl) fun f fd F => F.ok sc__are_members (fun vs H Q E h => ?_) (fun cdv A outer s H vs Q E hr h => ?_)
  · obtain ⟨v, many, most, t, rfl, _⟩ := h; rfl
  obtain ⟨v, many, most, t, rfl, hv, q⟩ := h
  refine ⟨_, (pss_cons (ps_if (PW.pt (pw_or (pt_not (pt_val (pe_callB call_isi (by rfl) B.zisinstance (by decide +kernel) (pa_cons (pv 0) (pa_cons (pe_ty "tuple" B.ztuple) pa_nil))))) (pw_or1 (pt_cmpR op_gt (pe_callB call_len_seq (by rfl) B.zlen (by decide +kernel) (pa_cons (pv 0) pa_nil)) (pv 2) (nomark _))))) (pss_one (ps_ret pe_bl)) pss_nil)
      (pss_cons (ps_set (i := 3) sc__are_members.nd rfl (.inl rfl) pe_int)
      (pss_cons (ps_for PassesOwn.never rfl (pi_tup (pv 0)) (pg_name (i := 4) sc__are_members.nd rfl (.inl rfl)) (pss_cons (ps_if (pt_not (pt_val (pe_h h_is_number (hr.mono (by decide)) (pa_cons (pv 4) (pa_cons (pv 3) (pa_cons (pe_op op_sub (pv 1) pe_int) pa_nil)))))) (pss_one (ps_ret pe_bl)) pss_nil)
      (pss_one (ps_set (i := 3) sc__are_members.nd rfl (.inl rfl) (pe_op op_add (pv 4) pe_int)))))
      (pss_one (ps_ret pe_bl))))), ?_⟩
  cases t with
  | none =>
    obtain ⟨T, hT, ht⟩ := hv
    have k : PySem.W.kitOne K (.type T) (.type "tuple") = some false := by
      have go : ∀ T ∈ ["int", "bool", "str", "NoneType", "list", "dict"], kitB T "tuple" = some false := by decide +kernel
      exact kit_ty (go T hT)
    exact ⟨_, rfl, _, _, _, _, _, rfl, .ty "tuple", ht, k, false, rfl, iteT (iteT q)⟩
  | some os =>
    obtain ⟨p, xs, rfl, hT, hl, hx⟩ := hv
    have hS : SqT K H p xs := hT
    refine ⟨_, rfl, _, _, _, _, _, rfl, .ty "tuple", sqt_ty37 hT, kit_ty (r := true) (by decide +kernel), true, rfl, iteF ?_⟩
    have em : membersB many most (some os) = (decide ((os.length : Int) ≤ most) && ascB many os 0) := rfl
    rw [em] at q
    refine ⟨_, rfl, p, _, rfl, .inr hS, _, rfl, _, _, rfl, rfl, _, rfl, ?_⟩
    by_cases c : most < (xs.length : Int)
    · rw [decide_eq_false (show ¬ (os.length : Int) ≤ most by omega), Bool.false_and] at q
      rw [decide_eq_true c]
      exact iteT q
    · rw [decide_eq_true (show (os.length : Int) ≤ most by omega), Bool.true_and] at q
      rw [decide_eq_false c]
      refine iteF ?_
      dsimp only [L2.start, List.set]
      refine ⟨_, rfl, p, rfl, ⟨_, hS⟩, for_tup (K := K) (a := p) (xs := xs) (fun i σ Hn => Hn = H ∧ ∃ (least : Int) (v : Option V), ascB many (os.drop i) least = ascB many os 0 ∧ σ = [some (.ref p), some (.int many), some (.int most), some (.int least), v]) ⟨rfl, 0, _, rfl, rfl⟩ (fun _ _ _ _ z => by rw [z.1]; exact hS) ?_ ?_⟩
      · rintro i x σ Hn hx' ⟨rfl, least, v, hb, rfl⟩
        have il : i < os.length := by rw [← hl]; exact (List.getElem?_eq_some_iff.mp hx').1
        have ho : os[i]? = some os[i] := List.getElem?_eq_getElem il
        have hk := hx i x os[i] hx' ho
        rw [List.drop_eq_getElem_cons il] at hb
        generalize os[i] = o at *
        have eb : ascB many (o :: os.drop (i + 1)) least = (inRg o least (many - 1) && ascB many (os.drop (i + 1)) (o.getD 0 + 1)) := rfl
        rw [eb] at hb
        refine ⟨_, rfl, _, rfl, _, rfl, _, _, rfl, rfl, x, least, many - 1, o, rfl, hk, _, rfl, ?_⟩
        cases e1 : inRg o least (many - 1) with
        | true =>
          rw [e1, Bool.true_and] at hb
          cases o with
          | none => cases e1
          | some j =>
            cases hk
            exact iteF ⟨_, rfl, _, _, rfl, rfl, rfl, j + 1, _, hb, rfl⟩
        | false =>
          rw [e1, Bool.false_and] at hb
          rw [← hb] at q
          exact iteT q
      · rintro σ Hn ⟨rfl, least, v, hb, rfl⟩
        rw [hl, List.drop_length] at hb
        rw [← hb] at q
        exact q
end
end Ts
namespace Ts
open PySem PySem.Spec PyProof.Rows L2 L2H LamX
section
variable {P : Program} {w : World} {K : PySem.W.Frag} {mg : Str → Option Value} {base : Heap}
theorem has_are_kept (D : DefAt K mg "are_kept" s_are_kept) (B : Blt0 mg) (h_is_kept : Has P w K mg base 1 "is_kept" ["share", "moment", "number"] (spIsKept K)) : Has P w K mg base 2 "are_kept" ["shares", "moment", "had"] (spAreKept K) := by
  refine D.has (fun _ _ _ _ _ _ us hl => match us, hl with | [_, _, _], _ => rfl) fun f fd F => F.ok sc_are_kept (fun vs H Q E h => ?_) (fun cdv A outer s H vs Q E hr h => ?_)
  · obtain ⟨a, c, xs, js, t, ns, rfl, _⟩ := h; rfl
  obtain ⟨a, c, xs, js, t, ns, rfl, hS, hA, hc, l6, ln, t0, t1, hn, q⟩ := h
  refine ⟨_, (pss_one (ps_ret (pe_callB (call_allB rfl) (by rfl) B.zall (by decide +kernel) (pa_cons (pe_lc (own := [("share", 3), ("number", 4)]) rfl sc_are_kept.nd (pi_zipM (K := K) rfl (by rfl) B.zzip (pa_cons (pv 0) (pa_cons (pv 2) pa_nil))) (blkOk_by (N := ["shares", "moment", "had", "share", "number"]) (sc := defScope s_are_kept) (own := [("share", 3), ("number", 4)]) (by decide +kernel)) (fun _ _ _ _ _ => (pg_tupK (K := K) (n := 2) rfl rfl (pgs_cons (pg_name (i := 3) sc_are_kept.nd rfl (.inl rfl) (.inr rfl)) (pgs_cons (pg_name (i := 4) sc_are_kept.nd rfl (.inl rfl) (.inr rfl)) pgs_nil)))) (fun _ _ _ _ _ => pts_nil) (fun _ _ _ _ _ => (pe_h h_is_kept (hr.mono (by decide)) (pa_cons (pv 3) (pa_cons (pv 1) (pa_cons (pv 4) pa_nil)))))) pa_nil)))), ?_⟩
  have lx : xs.length = js.length := by rw [hA.length]; unfold sharesD; rw [List.length_map]
  have hn9 : js.length = min xs.length (ns.map V.int).length := by rw [List.length_map, lx, ln, Nat.min_self]
  refine ⟨_, rfl, _, rfl, a, c, xs, ns.map V.int, rfl, hS, hc, fun D hD => ?_⟩
  refine lc_it (walk_zipM hn9) (fun i Hm => Same H Hm ∧ Hm D = some (.lst (((keptM js t ns).take i).map V.bl))) ⟨same_new hD, upd_same⟩ (fun i Hm _ z => ⟨sameT z.1 hS, z.1.seq hc⟩) ?_ ?_
  · rintro i x Hm H' hi ⟨sm, em⟩ ⟨T, y, z, rfl, hT, rfl, ey, ez⟩
    dsimp only at ey ez
    rw [List.getElem?_map] at ez
    obtain ⟨m, hm, rfl⟩ : ∃ m, ns[i]? = some m ∧ V.int m = z := by
      cases e : ns[i]? with
      | none => rw [e] at ez; cases ez
      | some m => rw [e] at ez; exact ⟨m, rfl, Option.some.inj ez⟩
    have sT : Same H (upd Hm T (.tup [y, .int m])) := sm.trans (same_new hT)
    obtain ⟨j, q9, hj, rfl, hq⟩ := share_at (js := js) (hA.mono sT) ey
    have hm2 := hn m (List.mem_of_getElem? hm)
    have eD : (upd Hm T (.tup [V.ref q9, .int m])) D = some (.lst (((keptM js t ns).take i).map V.bl)) := same_new hT _ _ em
    refine ⟨T, _, rfl, SqT.of upd_same, rfl, _, _, rfl, _, _, rfl, rfl, rfl, yesIf ⟨_, rfl, _, rfl, _, rfl, _, _, _, t, m, rfl, ⟨q9, rfl, hq⟩, t0, t1, hm2.1, hm2.2, ?_⟩⟩
    refine ⟨_, eD, ?_, Same.app hD sT, ?_⟩
    · rw [List.length_map, List.length_take]; exact small1000 (by omega)
    · rw [upd_same, keptM_at hj hm, List.map_append]; rfl
  · rintro Hm ⟨sm, em⟩
    rw [← keptM_len (t := t) ln, List.take_length] at em
    exact ⟨D, _, rfl, SqL.of em, q Hm sm⟩
end
end Ts
namespace Ts
open PySem PySem.Spec PyProof.Rows L2 L2H LamX
section
variable {P : Program} {w : World} {K : PySem.W.Frag} {mg : Str → Option Value} {base : Heap}
theorem has_keeps_all (D : DefAt K mg "keeps_all" s_keeps_all) (B : Blt0 mg) (h_are_kept : Has P w K mg base 2 "are_kept" ["shares", "moment", "had"] (spAreKept K)) (h__are_members : Has P w K mg base 3 "_are_members" ["value", "many", "most"] (spMembers K)) : Has P w K mg base 4 "keeps_all" ["shares", "hands", "value"] (spKeepsAll K) := by
  refine D.has (fun _ _ _ _ _ _ us hl => match us, hl with | [_, _, _], _ => rfl) fun f fd F => F.ok sc_keeps_all (fun vs H Q E h => ?_) (fun cdv A outer s H vs Q E hr h => ?_)
  · obtain ⟨a, c, v, xs, js, cs, t, rfl, _⟩ := h; rfl
  obtain ⟨a, c, v, xs, js, cs, t, rfl, hS, hA, hc, l0, l6, lc, cm, hv, q⟩ := h
  refine ⟨_, (pss_cons (ps_if (PW.pt (pw_or (pt_not (pt_val (pe_callB call_isi (by rfl) B.zisinstance (by decide +kernel) (pa_cons (pv 2) (pa_cons (pe_ty "tuple" B.ztuple) pa_nil))))) (pw_or1 (pt_cmpR op_ne (pe_callB call_len_seq (by rfl) B.zlen (by decide +kernel) (pa_cons (pv 2) pa_nil)) (pe_callB call_len_seq (by rfl) B.zlen (by decide +kernel) (pa_cons (pv 1) pa_nil)) (nomark _))))) (pss_one (ps_ret pe_bl)) pss_nil)
      (pss_cons (ps_set (i := 3) sc_keeps_all.nd rfl (.inl rfl) (pe_op op_rep (pe_lst (pa_cons pe_int pa_nil)) (pe_callB call_len_seq (by rfl) B.zlen (by decide +kernel) (pa_cons (pv 0) pa_nil))))
      (pss_cons (ps_for PassesOwn.never rfl (pi_enumT (by rfl) B.zenumerate (pa_cons (pv 2) pa_nil)) (pg_tup rfl (pgs_cons (pg_name (i := 4) sc_keeps_all.nd rfl (.inl rfl)) (pgs_cons (pg_name (i := 5) sc_keeps_all.nd rfl (.inl rfl)) pgs_nil))) (pss_cons (ps_if (pt_not (pt_val (pe_h h__are_members (hr.mono (by decide)) (pa_cons (pv 5) (pa_cons (pe_callB call_len_seq (by rfl) B.zlen (by decide +kernel) (pa_cons (pv 0) pa_nil)) (pa_cons (pe_ix ix_tup (pv 1) (pv 4) (fun _ _ => rfl)) pa_nil)))))) (pss_one (ps_ret pe_bl)) pss_nil)
      (pss_cons (ps_for PassesOwn.never rfl (pi_tup (pv 5)) (pg_name (i := 6) sc_keeps_all.nd rfl (.inl rfl)) (pss_one (ps_augS (pv 3) (pv 6) get_listP pe_int ip_add set_list)))
      (pss_one (ps_if (pt_not (pt_val (pe_h h_are_kept (hr.mono (by decide)) (pa_cons (pv 0) (pa_cons (pe_op op_add (pv 4) pe_int) (pa_cons (pv 3) pa_nil)))))) (pss_one (ps_ret pe_bl)) pss_nil)))))
      (pss_one (ps_ret pe_bl))))), ?_⟩
  have lx : xs.length = js.length := by rw [hA.length]; unfold sharesD; rw [List.length_map]
  cases t with
  | none =>
    obtain ⟨T, hT, ht⟩ := hv
    have k : PySem.W.kitOne K (.type T) (.type "tuple") = some false := by
      have go : ∀ T ∈ ["int", "bool", "str", "NoneType", "list", "dict"], kitB T "tuple" = some false := by decide +kernel
      exact kit_ty (go T hT)
    exact ⟨_, rfl, _, _, _, _, _, rfl, .ty "tuple", ht, k, false, rfl, iteT (iteT (q H fun _ _ z => z))⟩
  | some rs =>
    obtain ⟨p, ys, rfl, hT, hl, hx⟩ := hv
    have hP : SqT K H p ys := hT
    refine ⟨_, rfl, _, _, _, _, _, rfl, .ty "tuple", sqt_ty37 hT, kit_ty (r := true) (by decide +kernel), true, rfl, iteF ?_⟩
    have ek : keepsB js cs (some rs) = (decide (rs.length = cs.length) && keepsGo js cs rs 0 (List.replicate js.length 0)) := rfl
    rw [ek] at q
    refine ⟨_, rfl, p, _, rfl, .inr hP, _, rfl, c, _, rfl, .inr hc, rfl, _, rfl, ?_⟩
    by_cases el : rs.length = cs.length
    · rw [decide_eq_true el, Bool.true_and] at q
      have d0 : (!decide (V.int (ys.length : Int) = V.int ((cs.map V.int).length : Int))) = false := by
        rw [decide_eq_true (show V.int (ys.length : Int) = V.int ((cs.map V.int).length : Int) by rw [List.length_map, hl, el])]; rfl
      refine itF d0 ?_
      clear d0 ek
      refine ⟨by show 1 ≤ sizeLine; decide, fun l0 hl0 => ?_⟩
      have s0 : Same H (upd H l0 (.lst [.int 0])) := same_new hl0
      have hln : xs.length * 1 ≤ 1000 := by omega
      refine ⟨_, rfl, a, _, rfl, .inr (sameT s0 hS), l0, (xs.length : Int), [.int 0], rfl, rfl, upd_same, by omega, by omega, Nat.le_trans (show 1 * ((xs.length : Int)).toNat ≤ 1000 by omega) (by decide), fun hd hhd => ?_⟩
      have fhd : H hd = none := s0.free hhd
      have er : (List.replicate ((xs.length : Int)).toNat [V.int 0]).flatten = (List.replicate js.length (0 : Int)).map V.int := by rw [show ((xs.length : Int)).toNat = js.length by omega, rep_flat]
      rw [er]
      have s1 : Same H (upd (upd H l0 (.lst [.int 0])) hd (.lst ((List.replicate js.length (0 : Int)).map V.int))) := s0.trans (same_new hhd)
      have e1 : (upd (upd H l0 (.lst [.int 0])) hd (.lst ((List.replicate js.length (0 : Int)).map V.int))) hd = some (.lst ((List.replicate js.length (0 : Int)).map V.int)) := upd_same
      revert s1 e1
      generalize upd (upd H l0 (.lst [.int 0])) hd (.lst ((List.replicate js.length (0 : Int)).map V.int)) = H1
      intro s1 e1
      clear hhd hl0 s0 hln
      dsimp only [L2.start, List.set]
      refine ⟨_, rfl, p, _, rfl, sameT s1 hP, walk_enumT (K := K) (a := p) (xs := ys) (c := 0) (fun i σ Hn => Same H Hn ∧ ∃ hs : List Int, Hn hd = some (.lst (hs.map V.int)) ∧ hs.length = js.length ∧ (∀ n ∈ hs, 0 ≤ n ∧ n ≤ 1000 * (i : Int)) ∧ keepsGo js cs (rs.drop i) i hs = keepsGo js cs rs 0 (List.replicate js.length 0) ∧ ∃ v4 v5 v6, σ = [some (.ref a), some (.ref c), some (.ref p), some (.ref hd), v4, v5, v6])
        ⟨s1, _, e1, List.length_replicate, fun n hn => by rw [List.eq_of_mem_replicate hn]; exact ⟨by decide, by omega⟩, rfl, _, _, _, rfl⟩ (fun _ _ _ _ z => sameT z.1 hP) ?_ ?_⟩
      · clear s1 e1
        rintro i x T σ H2 hx' ⟨s2, hs, eh, lh, bh, hb, v4, v5, v6, rfl⟩ hT2
        have il : i < rs.length := by rw [← hl]; exact (List.getElem?_eq_some_iff.mp hx').1
        have hk := hx i x rs[i] hx' (List.getElem?_eq_getElem il)
        rw [List.drop_eq_getElem_cons il] at hb
        generalize rs[i] = r at *
        have eb : keepsGo js cs (r :: rs.drop (i + 1)) i hs = (membersB (js.length : Int) (cs.getD i 0) r && (keptAll js ((i : Int) + 1) (incAll hs (r.getD [])) && keepsGo js cs (rs.drop (i + 1)) (i + 1) (incAll hs (r.getD [])))) := rfl
        rw [eb] at hb
        clear eb
        refine ⟨T, _, rfl, SqT.of upd_same, rfl, _, _, rfl, _, _, rfl, rfl, ?_⟩
        have s3 : Same H (upd H2 T (.tup [.int (0 + ((i : Nat) : Int)), x])) := s2.trans (same_new hT2)
        have eh3 : (upd H2 T (.tup [.int (0 + ((i : Nat) : Int)), x])) hd = some (.lst (hs.map V.int)) := same_new hT2 _ _ eh
        revert s3 eh3
        generalize upd H2 T (.tup [.int (0 + ((i : Nat) : Int)), x]) = H3
        intro s3 eh3
        obtain ⟨mb, hmb⟩ : ∃ mb, membersB (js.length : Int) (cs.getD i 0) r = mb := ⟨_, rfl⟩
        rw [hmb] at hb
        have hmb' : membersB (xs.length : Int) (cs.getD i 0) r = mb := by rw [lx]; exact hmb
        have ic : i < cs.length := by omega
        have eci : cs[i]? = some (cs.getD i 0) := by
          rw [List.getD_eq_getElem?_getD, List.getElem?_eq_getElem ic]; rfl
        have cmi := cm _ (List.mem_of_getElem? eci)
        have e01 : (0 : Int) + (i : Int) = (i : Int) := by omega
        rw [e01]
        dsimp only [List.set]
        refine ⟨_, rfl, _, rfl, a, _, rfl, .inr (sameT s3 hS), _, rfl, _, rfl, c, cs.map V.int, (i : Int), .int (cs.getD i 0), rfl, rfl, sameT s3 hc, atI_nat (by rw [List.getElem?_map, eci]; rfl), x, (xs.length : Int), cs.getD i 0, r, rfl, hk.mono s3, mb, congrArg V.bl hmb', ?_⟩
        cases mb with
        | false =>
          rw [Bool.false_and] at hb
          rw [← hb] at q
          exact iteT (q H3 s3)
        | true =>
          rw [Bool.true_and] at hb
          refine iteF ?_
          cases r with
          | none => cases hmb
          | some os =>
            obtain ⟨pm, zs, rfl, hTm, hlm, hxm⟩ := hk
            have hm2 : (decide ((os.length : Int) ≤ cs.getD i 0) && ascB (js.length : Int) os 0) = true := hmb
            rw [Bool.and_eq_true, decide_eq_true_iff] at hm2
            obtain ⟨om, asc⟩ := hm2
            have hin := ascB_in os 0 asc (Int.le_refl _)
            have eo : (some os).getD [] = os := rfl
            rw [eo] at hb
            refine ⟨_, rfl, pm, rfl, ⟨_, sameT s3 (hTm)⟩, for_tup (K := K) (a := pm) (xs := zs) (fun k σ Hn => Same H Hn ∧ ∃ hs' : List Int, Hn hd = some (.lst (hs'.map V.int)) ∧ hs'.length = js.length ∧ incAll hs' (os.drop k) = incAll hs os ∧ ∃ v6, σ = [some (.ref a), some (.ref c), some (.ref p), some (.ref hd), some (.int (i : Int)), some (.ref pm), v6]) ⟨s3, hs, eh3, lh, rfl, _, rfl⟩ (fun _ _ _ _ z => sameT z.1 (hTm)) ?_ ?_⟩
            · rintro k y σ Hn hy ⟨sn, hs', e', l', inc, v6, rfl⟩
              have kl : k < os.length := by rw [← hlm]; exact (List.getElem?_eq_some_iff.mp hy).1
              obtain ⟨j, ej, jm⟩ := hin k os[k] (List.getElem?_eq_getElem kl)
              have ky := hxm k y os[k] hy (List.getElem?_eq_getElem kl)
              rw [List.drop_eq_getElem_cons kl] at inc
              rw [ej] at ky inc
              cases ky
              have jl : j < hs'.length := by omega
              have ejh : hs'[j]? = some (hs'.getD j 0) := by
                rw [List.getD_eq_getElem?_getD, List.getElem?_eq_getElem jl]; rfl
              refine ⟨_, rfl, _, rfl, hd, _, j, .int (hs'.getD j 0), rfl, rfl, e', by rw [List.getElem?_map, ejh]; rfl, _, _, rfl, rfl, hd, _, (j : Int), j, rfl, rfl, e', place_nat (by rw [List.length_map]; exact jl), ?_⟩
              refine ⟨fun a' o e => by rw [upd_ne (ne_of_none e fhd)]; exact sn _ _ e, inc1 hs' j, ?_, by rw [inc1_len]; exact l', inc, _, rfl⟩
              rw [upd_same]
              unfold inc1
              rw [List.map_set]
            · rintro σ Hn ⟨sn, hs', e', l', inc, v6, rfl⟩
              rw [hlm, List.drop_length] at inc
              have inc' : hs' = incAll hs os := inc
              subst inc'
              have bd := incAll_in os hs (1000 * (i : Int)) (by omega) bh
              obtain ⟨kb, hkb⟩ : ∃ kb, keptAll js ((i : Int) + 1) (incAll hs os) = kb := ⟨_, rfl⟩
              rw [hkb] at hb
              refine ⟨_, rfl, _, rfl, _, _, rfl, rfl, _, rfl, a, hd, xs, js, (i : Int) + 1, incAll hs os, rfl, sameT sn hS, hA.mono sn, SqL.of e', l6, l', by omega, by omega, fun n hn => by have := bd n hn; omega, fun H4 s4 => ⟨kb, congrArg V.bl hkb, ?_⟩⟩
              cases kb with
              | false =>
                rw [Bool.false_and] at hb
                rw [← hb] at q
                exact iteT (q H4 (sn.trans s4))
              | true =>
                rw [Bool.true_and] at hb
                exact iteF ⟨sn.trans s4, _, s4 _ _ e', l', fun n hn => by have := bd n hn; omega, hb, _, _, _, rfl⟩
      · rintro σ Hn ⟨sn, hs, eh, lh, bh, hb, v4, v5, v6, rfl⟩
        rw [hl, List.drop_length] at hb
        rw [← hb] at q
        exact q Hn sn
    · rw [decide_eq_false el, Bool.false_and] at q
      have d0 : (!decide (V.int (ys.length : Int) = V.int ((cs.map V.int).length : Int))) = true := by
        rw [decide_eq_false (fun z => el (by have := V.int.inj z; rw [List.length_map, hl] at this; omega))]; rfl
      exact itT d0 (q H fun _ _ z => z)
end
end Ts
namespace Ts
open PySem PySem.Spec PyProof.Rows L2 L2H LamX
section
variable {P : Program} {w : World} {K : PySem.W.Frag} {mg : Str → Option Value} {base : Heap}
theorem hx_lot_of53 {C CY : Addr} (D : DefAt K mg "_lot_of" s__lot_of) (B : Blt0 mg) (T : LotC K mg C) (hL : HasM P w K mg base 6 C ["self", "text"] (spInit K C)) (hx_check_round : HasX P w K mg base 3 "check_round" ["lot"] (spCheckRoundX K C CY)) : HasX P w K mg base 8 "_lot_of" ["text"] (spLotOfX K C CY) := by
  refine D.hasX (fun _ _ _ _ _ _ us hl => match us, hl with | [_], _ => rfl) fun f fd F => F.okX sc__lot_of (fun vs H Q E h => ?_) (fun cdv A outer s H vs Q E hr h => ?_)
  · obtain ⟨n, js, rfl, _⟩ := h; rfl
  obtain ⟨n, js, rfl, n1, n6, G, l0, l6, q1, q2⟩ := h
  have tk := takes_of (X := cxOf (L2.CX P w) P w K mg base ["text", "lot"] "_lot_of" (defScope s__lot_of) f cdv A outer s H E) (E := E) rfl rfl rfl rfl
  refine ⟨_, (pss_cons (ps_set (i := 1) sc__lot_of.nd rfl (.inl rfl) (pe_hm hL T.mgC (hr.mono (by decide)) (pa_cons (pv 0) pa_nil)))
      (pss_cons (ps_expr (pe_x hx_check_round (hr.mono (by decide)) tk (pa_cons (pv 1) pa_nil)))
      (pss_one (ps_ret (pv 1))))), ?_⟩
  refine ⟨_, rfl, ?_⟩
  intro x dy hx hdy hnx
  refine ⟨x, dy, n, js, rfl, upd_same, n1, n6, G, l0, l6, fun H5 b5 L5 => ⟨rfl, ?_⟩⟩
  have s5 : Same H H5 := fun a o e => b5 a o (ne_of_none e hx) (by rw [upd_ne (ne_of_none e hx), upd_ne (ne_of_none e hdy)]; exact e)
  exact ⟨_, rfl, x, n, js, rfl, L5, fun sp => ⟨_, rfl, q1 sp x H5 hx s5 L5⟩, fun sp => (q2 sp).mono s5⟩
theorem hx_has_table {C CY : Addr} (D : DefAt K mg "_has_table" s__has_table) (B : Blt0 mg) (T : LotC K mg C) (p_shares : PropH P w K mg base C "shares" "_shares") (p_hands : PropH P w K mg base C "hands" "_hands") (p_span : PropH P w K mg base C "span" "_span") (hx__lot_of : HasX P w K mg base 8 "_lot_of" ["text"] (spLotOfX K C CY)) (h_keeps_all : Has P w K mg base 4 "keeps_all" ["shares", "hands", "value"] (spKeepsAll K)) : HasX P w K mg base 9 "_has_table" ["certificate", "text"] (spHasTableX K CY) := by
  refine D.hasX (fun _ _ _ _ _ _ us hl => match us, hl with | [_, _], _ => rfl) fun f fd F => F.okX sc__has_table (fun vs H Q E h => ?_) (fun cdv A outer s H vs Q E hr h => ?_)
  · obtain ⟨vc, n, js, tt, rfl, _⟩ := h; rfl
  obtain ⟨vc, n, js, tt, rfl, n1, n6, G, l0, l6, hc, q1, q2⟩ := h
  have tk := takes_of (X := cxOf (L2.CX P w) P w K mg base ["certificate", "text", "lot"] "_has_table" (defScope s__has_table) f cdv A outer s H E) (E := E) rfl rfl rfl rfl
  refine ⟨_, (pss_cons (ps_set (i := 2) sc__has_table.nd rfl (.inl rfl) (pe_x hx__lot_of (hr.mono (by decide)) tk (pa_cons (pv 1) pa_nil)))
      (pss_one (ps_ret (pe_h h_keeps_all (hr.mono (by decide)) (pa_cons (pe_ph p_shares T.cl (hr.mono (by decide)) (pv 2)) (pa_cons (pe_op (op_rep1 rfl) (pe_tup (pa_cons (pe_ph p_hands T.cl (hr.mono (by decide)) (pv 2)) pa_nil)) (pe_ph p_span T.cl (hr.mono (by decide)) (pv 2))) (pa_cons (pv 0) pa_nil))))))), ?_⟩
  refine ⟨_, rfl, n, js, rfl, n1, n6, G, l0, l6, fun sp x H1 hx s1 L1 => ?_, fun sp => q2 sp⟩
  obtain ⟨dx, pn, ps, pt, ha, h1, h2, h3⟩ := id L1.ex
  obtain ⟨ps', xs, e, hS, hA⟩ := h2.tuple
  cases e
  have sp0 := span_pos G
  refine ⟨_, rfl, lot_get ha lot_shares ?_⟩
  refine ⟨_, rfl, lot_get ha lot_hands ?_⟩
  refine ⟨by show 1 ≤ sizeLine; decide, fun z hz => ?_⟩
  have s2 := same_new (o := .tup [V.int (n : Int)]) hz
  obtain ⟨dx2, pn2, ps2, pt2, ha2, h12, h22, h32⟩ := id (L1.mono s2).ex
  refine ⟨_, rfl, lot_get ha2 lot_span ?_⟩
  refine ⟨z, spanN js, .int (n : Int), rfl, rfl, SqT.of upd_same, by omega, by omega, fun c H3 s3 S3 => ?_⟩
  have s13 := s2.trans s3
  have ec : List.replicate (spanN js) (V.int (n : Int)) = (List.replicate (spanN js) (n : Int)).map V.int := by rw [List.map_replicate]
  rw [ec] at S3
  exact ⟨_, rfl, ps, c, vc, xs, js, _, tt, rfl, sameT s13 hS, hA.mono s13, S3, l0, l6, by rw [List.length_replicate]; omega, fun m hm => by rw [List.eq_of_mem_replicate hm]; omega, hc.mono (s1.trans s13), fun H4 s4 => q1 sp H4 (s1.trans (s13.trans s4))⟩
theorem hx_has_no_table {C CY : Addr} (D : DefAt K mg "_has_no_table" s__has_no_table) (B : Blt0 mg) (T : LotC K mg C) (h__is_empty : Has P w K mg base 1 "_is_empty" ["certificate"] (spIsEmpty K)) (hx__lot_of : HasX P w K mg base 8 "_lot_of" ["text"] (spLotOfX K C CY)) (h_fits : Has P w K mg base 3 "fits" ["lot"] (spFits K C)) : HasX P w K mg base 9 "_has_no_table" ["certificate", "text"] (spHasNoTableX K CY) := by
  refine D.hasX (fun _ _ _ _ _ _ us hl => match us, hl with | [_, _], _ => rfl) fun f fd F => F.okX sc__has_no_table (fun vs H Q E h => ?_) (fun cdv A outer s H vs Q E hr h => ?_)
  · obtain ⟨vc, n, js, em, rfl, _⟩ := h; rfl
  obtain ⟨vc, n, js, em, rfl, n1, n6, G, l0, l6, hc, q0, q1, q2⟩ := h
  have tk := takes_of (X := cxOf (L2.CX P w) P w K mg base ["certificate", "text"] "_has_no_table" (defScope s__has_no_table) f cdv A outer s H E) (E := E) rfl rfl rfl rfl
  refine ⟨_, (pss_one (ps_ret (pe_and (pe_h h__is_empty (hr.mono (by decide)) (pa_cons (pv 0) pa_nil)) (pe_one (pe_not (pe_h h_fits (hr.mono (by decide)) (pa_cons (pe_x hx__lot_of (hr.mono (by decide)) tk (pa_cons (pv 1) pa_nil)) pa_nil))))))), ?_⟩
  refine ⟨_, rfl, vc, em, rfl, hc, _, rfl, ?_⟩
  cases em with
  | false => exact q0 rfl
  | true =>
    refine ⟨_, rfl, n, js, rfl, n1, n6, G, l0, l6, fun sp x H1 hx s1 L1 => ?_, fun sp => q2 rfl sp⟩
    exact ⟨x, n, js, rfl, L1, n6, G, _, rfl, q1 rfl sp H1 s1⟩
end
end Ts
namespace Ts
open PySem PySem.Spec PyProof.Rows L2 L2H LamX
section
variable {P : Program} {w : World} {K : PySem.W.Frag} {mg : Str → Option Value} {base : Heap}
theorem has_take (D : DefAt K mg "_law_take" s__law_take) (B : Blt0 mg) : Has P w K mg base 1 "_law_take" ["_law_bag_here", "_law_many"] spTake := by
  refine D.has (fun _ _ _ _ _ _ us hl => match us, hl with | [_, _], _ => rfl) fun f fd F => F.ok sc__law_take (fun vs H Q E h => ?_) (fun cdv A outer s H vs Q E hr h => ?_)
  · obtain ⟨b, m, rfl, _⟩ := h; rfl
  obtain ⟨b, m, rfl, ⟨x, y, z, hx0, hx1, hb⟩, hm0, hm1, q⟩ := h
  refine ⟨_, (pss_cons (ps_asg (pe_op op_add (pe_ix ix_list (pv 0) pe_int (fun _ _ => rfl)) pe_int) (pg_sub (pv 0) pe_int set_list))
      (pss_cons (ps_set (i := 2) sc__law_take.nd rfl (.inl rfl) (pe_callTy call_int1 (by rfl) B.zint (by decide +kernel) (pa_cons (pe_ix ix_list (pv 0) pe_int (fun _ _ => rfl)) pa_nil)))
      (pss_cons (ps_set (i := 3) sc__law_take.nd rfl (.inl rfl) (pe_op op_fdiv (pv 2) pe_int))
      (pss_cons (ps_asg (pe_op op_mod (pe_callTy call_int1 (by rfl) B.zint (by decide +kernel) (pa_cons (pe_op op_add (pe_op op_add (pe_op op_add (pe_op op_mul (pv 2) pe_int) (pe_op op_mul (pv 3) (pv 3))) (pe_op op_mul pe_int (pe_ix ix_list (pv 0) pe_int (fun _ _ => rfl)))) pe_int) pa_nil)) pe_int) (pg_sub (pv 0) pe_int set_list))
      (pss_cons (ps_if (pt_cmpR op_gt (pe_ix ix_list (pv 0) pe_int (fun _ _ => rfl)) pe_int (nomark _)) (pss_cons (ps_asg (pe_callB call_divmod (by rfl) B.zdivmod (by decide +kernel) (pa_cons (pe_ix ix_list (pv 0) pe_int (fun _ _ => rfl)) (pa_cons (pv 1) pa_nil))) (pg_tup rfl (pgs_cons (pg_sub (pv 0) pe_int set_list) (pgs_cons (pg_name (i := 4) sc__law_take.nd rfl (.inl rfl)) pgs_nil))))
      (pss_one (ps_ret (pv 4)))) pss_nil)
      (pss_one (ps_ret (pe_op op_mod (pe_callTy call_int1 (by rfl) B.zint (by decide +kernel) (pa_cons (pe_op op_fdiv (pe_ix ix_list (pv 0) pe_int (fun _ _ => rfl)) pe_int) pa_nil)) (pv 1))))))))), ?_⟩
  -- b[2] = b[2] + 1
  refine ⟨_, rfl, b, _, 2, .int z, rfl, rfl, SqL.of hb, rfl, _, _, rfl, rfl, _, rfl, b, _, 2, 2, rfl, rfl, hb, rfl, ?_⟩
  -- the seed, its high part
  refine ⟨_, rfl, b, _, 0, .int x, rfl, rfl, SqL.of upd_same, rfl, .inl ⟨_, rfl, ?_⟩⟩
  refine ⟨_, rfl, _, _, rfl, rfl, ⟨by decide, by decide⟩, ?_⟩
  have h0 : 0 ≤ x / 4093 := Int.ediv_nonneg hx0 (by decide)
  have h1 : x / 4093 ≤ x := Int.ediv_le_self _ hx0
  have s0 : -(2 ^ 64) < x / 4093 := by omega
  have s1 : x / 4093 < 2 ^ 64 := by omega
  refine ⟨_, rfl, _, _, rfl, rfl, .inr ⟨by decide, by decide⟩, _, rfl, _, rfl, _, _, rfl, rfl, .inl ⟨s0, s1⟩, _, _, rfl, rfl, ?_⟩
  refine ⟨_, rfl, b, _, 2, .int (z + 1), rfl, rfl, SqL.of upd_same, rfl, _, _, rfl, rfl, .inl ⟨by decide, by decide⟩, _, _, rfl, rfl, _, _, rfl, rfl, .inl ⟨_, rfl, _, _, rfl, rfl, (by decide : (0 : Int) < 2147483587), ?_⟩⟩
  refine ⟨_, rfl, b, _, 0, 0, rfl, rfl, upd_same, rfl, ?_⟩
  refine at_heap (fun Hx => ∃ x2 : Int, 0 ≤ x2 ∧ x2 < 2147483587 ∧ But b H Hx ∧ Hx b = some (.lst [.int x2, .int y, .int (z + 1)])) ⟨_, Int.emod_nonneg _ (by decide), Int.emod_lt_of_pos _ (by decide), But.set.trans But.set, upd_same⟩ ?_
  rintro H2 ⟨x2, x0, x1, bb, eb⟩
  refine ⟨_, rfl, b, _, 1, .int y, rfl, rfl, SqL.of eb, rfl, _, _, rfl, rfl, _, rfl, ite2 (fun c => ?_) (fun c => ?_)⟩
  · refine ⟨_, rfl, b, _, 1, .int y, rfl, rfl, SqL.of eb, rfl, _, rfl, y, m, rfl, ⟨hm0, hm1⟩, fun p hp => ?_⟩
    have hbp : b ≠ p := ne_of_none eb hp
    refine ⟨p, _, rfl, SqT.of upd_same, rfl, _, _, rfl, _, rfl, b, [.int x2, .int y, .int (z + 1)], 1, 1, rfl, rfl, (by rw [upd_ne hbp]; exact eb), rfl, ?_⟩
    refine ⟨_, _, rfl, rfl, _, rfl, q _ _ (Int.emod_nonneg _ (by omega)) (Int.emod_lt_of_pos _ hm0) ?_ ⟨_, _, _, x0, x1, upd_same⟩⟩
    exact (bb.trans (But.of_same (same_new hp))).trans But.set
  · exact ⟨_, rfl, b, _, 0, _, rfl, rfl, SqL.of eb, rfl, _, _, rfl, rfl, ⟨by decide, by decide⟩, .inl ⟨_, rfl, _, rfl, _, _, rfl, rfl, hm0, q _ _ (Int.emod_nonneg _ (by omega)) (Int.emod_lt_of_pos _ hm0) bb ⟨_, _, _, x0, x1, eb⟩⟩⟩
theorem has_one (D : DefAt K mg "_law_of" s__law_of) (B : Blt0 mg) (h__law_take : Has P w K mg base 1 "_law_take" ["_law_bag_here", "_law_many"] spTake) : Has P w K mg base 2 "_law_of" ["_law_bag_here", "_law_things"] spOne := by
  refine D.has (fun _ _ _ _ _ _ us hl => match us, hl with | [_, _], _ => rfl) fun f fd F => F.ok sc__law_of (fun vs H Q E h => ?_) (fun cdv A outer s H vs Q E hr h => ?_)
  · obtain ⟨b, l, xs, rfl, _⟩ := h; rfl
  obtain ⟨b, l, xs, rfl, hB, hlb, hl, l0, l1, q⟩ := h
  refine ⟨_, (pss_one (ps_ret (pe_ix ix_list (pv 1) (pe_h h__law_take (hr.mono (by decide)) (pa_cons (pv 0) (pa_cons (pe_callB call_len_seq (by rfl) B.zlen (by decide +kernel) (pa_cons (pv 1) pa_nil)) pa_nil))) (fun _ _ => rfl)))), ?_⟩
  refine ⟨_, rfl, _, rfl, _, rfl, l, _, rfl, .inl (SqL.of hl), b, (xs.length : Int), rfl, hB, by omega, by omega, fun r H1 r0 r1 b1 B1 => ?_⟩
  obtain ⟨k, rfl⟩ := Int.eq_ofNat_of_zero_le r0
  have hk : k < xs.length := by omega
  exact ⟨l, _, k, xs[k], rfl, rfl, SqL.of (b1 _ _ hlb hl), atI_nat (List.getElem?_eq_getElem hk), q k _ H1 (List.getElem?_eq_getElem hk) b1 B1⟩
theorem has_common (D : DefAt K mg "_law_common" s__law_common) (B : Blt0 mg) : Has P w K mg base 1 "_law_common" ["_law_one", "_law_two"] spCommon := by
  refine D.has (fun _ _ _ _ _ _ us hl => match us, hl with | [_, _], _ => rfl) fun f fd F => F.ok sc__law_common (fun vs H Q E h => ?_) (fun cdv A outer s H vs Q E hr h => ?_)
  · obtain ⟨a, b, rfl, _⟩ := h; rfl
  obtain ⟨a, b, rfl, hb, q⟩ := h
  refine ⟨_, (pss_cons (ps_for PassesOwn.never rfl (pi_range1 (by rfl) B.zrange (pa_cons pe_int pa_nil)) (pg_name (i := 2) sc__law_common.nd rfl (.inl rfl)) (pss_one (ps_if (pt_cmpR op_gt (pv 1) pe_int (nomark _)) (pss_one (ps_par (i := 0) (j := 1) (by rfl) sc__law_common.nd rfl rfl (by decide) rfl rfl (pa_cons (pv 1) (pa_cons (pe_op op_mod (pe_callTy call_int1 (by rfl) B.zint (by decide +kernel) (pa_cons (pv 0) pa_nil)) (pv 1)) pa_nil)) (by rfl))) pss_nil)))
      (pss_one (ps_ret (pv 0)))), ?_⟩
  refine ⟨400, rfl, by decide, by decide, for_range (lo := 0) (n := 400) (fun i σ Hn => Hn = H ∧ ∃ v, σ = [some (.int ((gits i (a, b)).1 : Int)), some (.int ((gits i (a, b)).2 : Int)), v]) ⟨rfl, _, rfl⟩ ?_ ?_⟩
  · rintro i σ H0 hi ⟨rfl, v, rfl⟩
    rw [gits_succ]
    dsimp only [List.set]
    generalize gits i (a, b) = p
    obtain ⟨x, y⟩ := p
    refine ⟨_, rfl, _, _, rfl, rfl, _, rfl, ite2 (fun c => ?_) (fun c => ?_)⟩
    · have hy : 0 < y := by have := of_decide_eq_true c; exact Int.ofNat_lt.mp this
      have e : gstep (x, y) = (y, x % y) := if_pos hy
      rw [e]
      refine ⟨_, rfl, _, rfl, .inl ⟨_, rfl, _, rfl, _, _, rfl, rfl, (show (0 : Int) < (y : Int) by omega), _, _, rfl, rfl, _, rfl⟩⟩
    · have hy : ¬ 0 < y := fun z => c (decide_eq_true (Int.ofNat_lt.mpr z))
      have e : gstep (x, y) = (x, y) := if_neg hy
      rw [e]
      exact ⟨rfl, _, rfl⟩
  · rintro σ Hn ⟨rfl, v, rfl⟩
    rw [gits_end hb]
    exact ⟨_, rfl, q⟩
theorem has_share_of2 (D : DefAt K mg "_law_share" s__law_share) (B : Blt0 mg) (h__law_take : Has P w K mg base 1 "_law_take" ["_law_bag_here", "_law_many"] spTake) (h__law_of : Has P w K mg base 2 "_law_of" ["_law_bag_here", "_law_things"] spOne) (h__law_common : Has P w K mg base 1 "_law_common" ["_law_one", "_law_two"] spCommon) :
    Has P w K mg base 3 "_law_share" ["_law_bag_here", "_law_menu"] (spShareOf K) := by
  refine D.has (fun _ _ _ _ _ _ us hl => match us, hl with | [_, _], _ => rfl) fun f fd F => F.ok sc__law_share (fun vs H Q E h => ?_) (fun cdv A outer s H vs Q E hr h => ?_)
  · obtain ⟨b, l, ms, rfl, _⟩ := h; rfl
  obtain ⟨b, l, ms, rfl, hB, hlb, hl, l0, l1, hm, q⟩ := h
  refine ⟨_, (pss_cons (ps_set (i := 2) sc__law_share.nd rfl (.inl rfl) (pe_h h__law_of (hr.mono (by decide)) (pa_cons (pv 0) (pa_cons (pv 1) pa_nil))))
      (pss_cons (ps_set (i := 3) sc__law_share.nd rfl (.inl rfl) (pe_op op_add pe_int (pe_h h__law_take (hr.mono (by decide)) (pa_cons (pv 0) (pa_cons (pv 2) pa_nil)))))
      (pss_cons (ps_set (i := 4) sc__law_share.nd rfl (.inl rfl) (pe_h h__law_common (hr.mono (by decide)) (pa_cons (pv 2) (pa_cons (pv 3) pa_nil))))
      (pss_one (ps_ret (pe_tup (pa_cons (pe_op op_fdiv (pv 3) (pv 4)) (pa_cons (pe_op op_fdiv (pv 2) (pv 4)) pa_nil)))))))), ?_⟩
  refine ⟨_, rfl, _, rfl, b, l, _, rfl, hB, hlb, hl, by rw [List.length_map]; exact l0, by rw [List.length_map]; exact l1, fun i x H1 hx b1 B1 => ?_⟩
  rw [List.getElem?_map] at hx
  obtain ⟨m, hmi, rfl⟩ : ∃ m, ms[i]? = some m ∧ V.int (m : Int) = x := by
    cases e : ms[i]? with
    | none => rw [e] at hx; cases hx
    | some m => rw [e] at hx; exact ⟨m, rfl, Option.some.inj hx⟩
  have mm := List.mem_of_getElem? hmi
  obtain ⟨m1, m2⟩ := hm m mm
  refine ⟨_, rfl, _, rfl, b, (m : Int), rfl, B1, by omega, by omega, fun r H2 r0 r1 b2 B2 => ?_⟩
  obtain ⟨k, rfl⟩ := Int.eq_ofNat_of_zero_le r0
  have e1 : (1 : Int) + (k : Int) = ((1 + k : Nat) : Int) := by omega
  have s1 : (1 + k) < 2 ^ 200 := Nat.lt_of_lt_of_le (show 1 + k < 2 ^ 10 by omega) (Nat.pow_le_pow_right (by decide) (by decide))
  have g0 : 0 < Nat.gcd m (1 + k) := Nat.gcd_pos_of_pos_left _ m1
  have g1 : Nat.gcd m (1 + k) ≤ m := Nat.le_of_dvd m1 (Nat.gcd_dvd_left _ _)
  refine ⟨_, _, rfl, rfl, _, rfl, _, rfl, m, 1 + k, by dsimp only; rw [e1]; rfl, s1, ?_⟩
  have cd : CDiv ((1 : Int) + (k : Int)) ((Nat.gcd m (1 + k) : Nat) : Int) := ⟨by omega, by omega⟩
  have cd2 : CDiv (m : Int) ((Nat.gcd m (1 + k) : Nat) : Int) := ⟨by omega, by omega⟩
  refine ⟨_, rfl, _, rfl, _, _, rfl, rfl, cd, _, rfl, _, rfl, _, _, rfl, rfl, cd2, by show 2 ≤ sizeLine; decide, fun p hp => ?_⟩
  have ee : ((1 : Int) + (k : Int)) / ((Nat.gcd m (1 + k) : Nat) : Int) = (((1 + k) / Nat.gcd m (1 + k) : Nat) : Int) := by rw [e1]; rfl
  have ep : (m : Int) / ((Nat.gcd m (1 + k) : Nat) : Int) = ((m / Nat.gcd m (1 + k) : Nat) : Int) := rfl
  have km : 1 + k ≤ m := by omega
  have GP : GoodPart 1000 ((1 + k) / Nat.gcd m (1 + k)) (m / Nat.gcd m (1 + k)) := by
    refine ⟨Nat.div_pos (Nat.le_of_dvd (by omega) (Nat.gcd_dvd_right _ _)) g0, Nat.div_le_div_right km, Nat.le_trans (Nat.div_le_self _ _) m2, ?_⟩
    rw [Nat.gcd_comm m (1 + k)]
    exact Nat.coprime_div_gcd_div_gcd (by rw [Nat.gcd_comm]; exact g0)
  refine q _ _ p _ GP ⟨m, mm, Nat.div_le_self _ _⟩ ?_ ((b1.trans b2).trans' (same_new hp)) (B2.on (same_new hp)) (by rw [upd_same]; dsimp only; rw [ee, ep])
  cases e : H p with
  | none => rfl
  | some o =>
    by_cases z : p = b
    · rw [z] at hp; obtain ⟨_, _, _, _, _, e9⟩ := B2; rw [e9] at hp; cases hp
    · rw [b2 _ _ z (b1 _ _ z e)] at hp; cases hp
theorem has_bag (D : DefAt K mg "_law_bag" s__law_bag) (B : Blt0 mg) : Has P w K mg base 1 "_law_bag" ["_law_script", "_law_spot"] (spBag K) := by
  refine D.has (fun _ _ _ _ _ _ us hl => match us, hl with | [_, _], _ => rfl) fun f fd F => F.ok sc__law_bag (fun vs H Q E h => ?_) (fun cdv A outer s H vs Q E hr h => ?_)
  · obtain ⟨a, ns, i, rfl, _⟩ := h; rfl
  obtain ⟨a, ns, i, rfl, hS, hl, hi, q⟩ := h
  refine ⟨_, (pss_cons (ps_set (i := 2) sc__law_bag.nd rfl (.inl rfl) (pe_ifExp (pt_cmpR op_lt (pv 1) (pe_callB call_len_seq (by rfl) B.zlen (by decide +kernel) (pa_cons (pv 0) pa_nil)) (nomark _)) (pe_ix ix_list (pv 0) (pv 1) (fun _ _ => rfl)) (pe_op op_add (pe_op op_mul pe_int (pv 1)) pe_int)))
      (pss_cons (ps_for PassesOwn.never rfl (pi_list (pe_ifExp (pt_cmpR op_ge (pv 1) (pe_callB call_len_seq (by rfl) B.zlen (by decide +kernel) (pa_cons (pv 0) pa_nil)) (nomark _)) (pe_slice sl_list (pv 0) po_none (po_some pe_int)) (pe_lst pa_nil))) (pg_name (i := 3) sc__law_bag.nd rfl (.inl rfl)) (pss_one (ps_set (i := 2) sc__law_bag.nd rfl (.inl rfl) (pe_op op_mod (pe_callTy call_int1 (by rfl) B.zint (by decide +kernel) (pa_cons (pe_op op_add (pe_op op_mul (pv 2) pe_int) (pv 3)) pa_nil)) pe_int))))
      (pss_one (ps_ret (pe_lst (pa_cons (pe_op op_mod (pe_callTy call_int1 (by rfl) B.zint (by decide +kernel) (pa_cons (pv 2) pa_nil)) pe_int) (pa_cons (pe_ifExp (PW.pt (pw_or (pt_cmpR op_lt (pv 2) pe_int (nomark _)) (pw_or1 (pt_cmpR op_ge (pv 2) (pe_op op_pow pe_int pe_int) (nomark _))))) (pe_callB call_abs (by rfl) B.zabs (by decide +kernel) (pa_cons (pv 2) pa_nil)) pe_int) (pa_cons pe_int pa_nil)))))))), ?_⟩
  refine ⟨_, rfl, _, rfl, a, _, rfl, .inl hS, _, _, rfl, rfl, _, rfl, ite2 (fun c => ?own) (fun c => ?far)⟩
  case' own =>
    have c' : i < ns.length := by
      have := of_decide_eq_true c
      rw [List.length_map] at this
      omega
    refine ⟨_, rfl, _, rfl, a, _, i, .int ns[i], rfl, rfl, hS, atI_nat (by rw [List.getElem?_map, List.getElem?_eq_getElem c']; rfl), ?_⟩
    generalize ns[i] = o
  case' far =>
    refine ⟨_, rfl, _, _, rfl, rfl, .inl ⟨by decide, by decide⟩, _, _, rfl, rfl, ?_⟩
    show gName _ (V.int (6151 * (i : Int) + 98317)) _ _ _
    generalize 6151 * (i : Int) + 98317 = o
  all_goals
    refine ⟨_, rfl, _, rfl, a, _, rfl, .inl hS, _, _, rfl, rfl, _, rfl, ite2 (fun d => ?_) (fun d => ?_)⟩
    case' refine_1 =>
      refine ⟨_, rfl, _, rfl, a, _, rfl, hS, fun p hp => ?_⟩
      have s1 : Same H (upd H p (.lst (cutV (ns.map V.int) none (some 3)))) := same_new hp
      have e1 : (upd H p (.lst (cutV (ns.map V.int) none (some 3)))) p = some (.lst (cutV (ns.map V.int) none (some 3))) := upd_same
      have hx : ∀ (j : Nat) (x : V), (cutV (ns.map V.int) none (some 3))[j]? = some x → ∃ n, x = V.int n := fun j x hx => by
        unfold cutV at hx
        obtain ⟨n, _, e⟩ := List.mem_map.mp (List.mem_of_mem_drop (List.mem_of_mem_take (List.mem_of_getElem? hx)))
        exact ⟨n, e.symm⟩
      revert s1 e1 hx
      generalize upd H p (.lst (cutV (ns.map V.int) none (some 3))) = H1
      generalize cutV (ns.map V.int) none (some 3) = xs
    case' refine_2 =>
      refine ⟨by show 0 ≤ sizeLine; decide, fun p hp => ?_⟩
      have s1 : Same H (upd H p (.lst [])) := same_new hp
      have e1 : (upd H p (.lst [])) p = some (.lst []) := upd_same
      have hx : ∀ (j : Nat) (x : V), ([] : List V)[j]? = some x → ∃ n, x = V.int n := fun j x hx => by cases hx
      revert s1 e1 hx
      generalize upd H p (.lst []) = H1
      intro s1 e1 hx
      obtain ⟨xs, e9⟩ : ∃ xs : List V, ([] : List V) = xs := ⟨_, rfl⟩
      rw [e9] at e1 hx
      clear e9
      revert hx; revert e1; revert s1
    all_goals
      intro s1 e1 hx
      refine ⟨p, rfl, ⟨_, SqL.of e1⟩, for_list (K := K) (a := p) (xs := xs) (fun _ σ H' => Same H H' ∧ H' p = some (.lst xs) ∧ ∃ (z : Int) (v : Option V), σ = [some (.ref a), some (.int i), some (.int z), v]) ⟨s1, e1, _, _, rfl⟩ (fun _ _ _ _ z => SqL.of z.2.1) ?_ ?_⟩
      · rintro j x σ H' hxj ⟨sm, e3, z, v, rfl⟩
        obtain ⟨n, rfl⟩ := hx j x hxj
        exact ⟨_, rfl, _, _, rfl, rfl, .inr ⟨by decide, by decide⟩, _, rfl, _, _, rfl, rfl, .inl ⟨_, rfl, _, _, rfl, rfl, (by decide : (0 : Int) < _), sm, e3, _, _, rfl⟩⟩
      · rintro σ H' ⟨sm, e3, z, v, rfl⟩
        have z0 : 0 ≤ z % 2147483587 := Int.emod_nonneg _ (by decide)
        have z1 : z % 2147483587 < 2147483587 := Int.emod_lt_of_pos _ (by decide)
        refine ⟨_, rfl, .inl ⟨_, rfl, _, _, rfl, rfl, (by decide : (0 : Int) < 2147483587), ?_⟩⟩
        refine ⟨_, rfl, _, _, rfl, rfl, _, rfl, ite2 (fun _ => ?_) (fun _ => ?_)⟩
        · exact iteT ⟨_, rfl, _, rfl, by show 3 ≤ sizeLine; decide, fun p4 hp4 => q p4 _ (sm.free hp4) (sm.trans (same_new hp4)) ⟨_, _, _, z0, z1, upd_same⟩⟩
        · refine ⟨_, rfl, _, _, rfl, rfl, ⟨by decide, by decide, by decide⟩, _, _, rfl, rfl, _, rfl, ite2 (fun _ => ?_) (fun _ => ?_)⟩
          · exact ⟨_, rfl, _, rfl, by show 3 ≤ sizeLine; decide, fun p4 hp4 => q p4 _ (sm.free hp4) (sm.trans (same_new hp4)) ⟨_, _, _, z0, z1, upd_same⟩⟩
          · exact ⟨by show 3 ≤ sizeLine; decide, fun p4 hp4 => q p4 _ (sm.free hp4) (sm.trans (same_new hp4)) ⟨_, _, _, z0, z1, upd_same⟩⟩
end
end Ts
namespace Ts
open PySem PySem.Spec PyProof.Rows L2 L2H LamX
section
variable {P : Program} {w : World} {K : PySem.W.Frag} {mg : Str → Option Value} {base : Heap}
theorem has_sumB (D : DefAt K mg "_law_sum" s__law_sum) (B : Blt0 mg) (h__law_common : Has P w K mg base 1 "_law_common" ["_law_one", "_law_two"] spCommon) : Has P w K mg base 2 "_law_sum" ["_law_shares_here"] (spSumB K) := by
  refine D.has (fun _ _ _ _ _ _ us hl => match us, hl with | [_], _ => rfl) fun f fd F => F.ok sc__law_sum (fun vs H Q E h => ?_) (fun cdv A outer s H vs Q E hr h => ?_)
  · obtain ⟨p, js, rfl, _⟩ := h; rfl
  obtain ⟨p, js, rfl, hD, G, l6, q⟩ := h
  refine ⟨_, (pss_cons (ps_asg (pe_tup (pa_cons pe_int (pa_cons pe_int pa_nil))) (pg_tup rfl (pgs_cons (pg_name (i := 1) sc__law_sum.nd rfl (.inl rfl)) (pgs_cons (pg_name (i := 2) sc__law_sum.nd rfl (.inl rfl)) pgs_nil))))
      (pss_cons (ps_for PassesOwn.never rfl (pi_list (pv 0)) (pg_tup rfl (pgs_cons (pg_name (i := 3) sc__law_sum.nd rfl (.inl rfl)) (pgs_cons (pg_name (i := 4) sc__law_sum.nd rfl (.inl rfl)) pgs_nil))) (pss_cons (ps_par (i := 1) (j := 2) (by rfl) sc__law_sum.nd rfl rfl (by decide) rfl rfl (pa_cons (pe_op op_add (pe_op op_mul (pv 1) (pv 4)) (pe_op op_mul (pv 3) (pv 2))) (pa_cons (pe_op op_mul (pv 2) (pv 4)) pa_nil)) (by rfl))
      (pss_cons (ps_set (i := 5) sc__law_sum.nd rfl (.inl rfl) (pe_h h__law_common (hr.mono (by decide)) (pa_cons (pv 2) (pa_cons (pv 1) pa_nil))))
      (pss_one (ps_par (i := 1) (j := 2) (by rfl) sc__law_sum.nd rfl rfl (by decide) rfl rfl (pa_cons (pe_op op_fdiv (pv 1) (pv 5)) (pa_cons (pe_op op_fdiv (pv 2) (pv 5)) pa_nil)) (by rfl))))))
      (pss_one (ps_ret (pe_tup (pa_cons (pv 1) (pa_cons (pv 2) pa_nil))))))), ?_⟩
  obtain ⟨p', xs, e, hS, hA⟩ := hD.list
  cases e
  have hxl : xs.length = js.length := by rw [hA.length, List.length_map]
  refine ⟨by show 2 ≤ sizeLine; decide, fun pb hpb => ?_⟩
  refine ⟨pb, _, rfl, SqT.of upd_same, rfl, _, _, rfl, _, _, rfl, rfl, ?_⟩
  refine ⟨_, rfl, p, rfl, ⟨_, (same_new hpb).seq hS⟩, for_list (K := K) (a := p) (xs := xs) (fun i σ H3 => Same H H3 ∧ ∃ v3 v4 v5, σ = [some (.ref p), some (.int (totTop (js.take i) : Int)), some (.int (totBot (js.take i) : Int)), v3, v4, v5])
    ⟨same_new hpb, _, _, _, by rw [List.take_zero, tot_nil.1, tot_nil.2]; rfl⟩ (fun _ _ _ _ z => z.1.seq hS) ?_ ?_⟩
  · rintro i x σ H3 hx ⟨s3, v3, v4, v5, rfl⟩
    obtain ⟨j, q2, hj, rfl, hq⟩ := share_at (hA.mono s3) hx
    obtain ⟨p1, p2, p3, _⟩ := G.part j (List.mem_of_getElem? hj)
    have Gi := G.take (i := i)
    have hb := bot_le Gi
    obtain ⟨t1, t2⟩ := add_step G hj
    have hb0 : 0 < totBot (js.take i) := by
      rw [← (big_low Gi).2]
      exact Nat.div_pos (Nat.le_of_dvd (by decide) (Nat.gcd_dvd_right _ _)) (Nat.gcd_pos_of_pos_right _ (by decide))
    have hy : totBot (js.take i) * j.2.2 ≤ 720720 * 16 := Nat.mul_le_mul hb p3
    have hy0 : 0 < totBot (js.take i) * j.2.2 := Nat.mul_pos hb0 (by omega)
    refine ⟨q2, _, rfl, hq, rfl, _, _, rfl, _, _, rfl, rfl, ?_⟩
    refine ⟨_, rfl, _, rfl, _, _, rfl, rfl, .inr ⟨by omega, by omega⟩, _, rfl, _, rfl, _, _, rfl, rfl, .inl ⟨by omega, by omega⟩, _, _, rfl, rfl, _, rfl, _, rfl, _, _, rfl, rfl, .inr ⟨by omega, by omega⟩, _, _, rfl, ?_⟩
    have ht := top_le Gi (by rw [List.length_take]; omega)
    have hx1 : totTop (js.take i) * j.2.2 ≤ 6 * 720720 * 16 := Nat.mul_le_mul ht p3
    have hx2 : j.2.1 * totBot (js.take i) ≤ 16 * 720720 := Nat.mul_le_mul (by omega) hb
    have bt : totTop (js.take i) * j.2.2 + j.2.1 * totBot (js.take i) < 2 ^ 200 := Nat.lt_of_lt_of_le (show totTop (js.take i) * j.2.2 + j.2.1 * totBot (js.take i) < 2 ^ 30 by omega) (Nat.pow_le_pow_right (by decide) (by decide))
    have e1 : (totTop (js.take i) : Int) * (j.2.2 : Int) + (j.2.1 : Int) * (totBot (js.take i) : Int) = ((totTop (js.take i) * j.2.2 + j.2.1 * totBot (js.take i) : Nat) : Int) := by
      rw [Int.natCast_add, Int.natCast_mul, Int.natCast_mul]
    have e2 : (totBot (js.take i) : Int) * (j.2.2 : Int) = ((totBot (js.take i) * j.2.2 : Nat) : Int) := by rw [Int.natCast_mul]
    dsimp only [List.set]
    rw [e1, e2]
    rw [← t1, ← t2]
    have gg := Nat.gcd_comm (totTop (js.take i) * j.2.2 + j.2.1 * totBot (js.take i)) (totBot (js.take i) * j.2.2)
    rw [gg]
    have g0 : 0 < Nat.gcd (totBot (js.take i) * j.2.2) (totTop (js.take i) * j.2.2 + j.2.1 * totBot (js.take i)) := Nat.gcd_pos_of_pos_left _ hy0
    have g1 : Nat.gcd (totBot (js.take i) * j.2.2) (totTop (js.take i) * j.2.2 + j.2.1 * totBot (js.take i)) ≤ totBot (js.take i) * j.2.2 := Nat.le_of_dvd hy0 (Nat.gcd_dvd_left _ _)
    generalize totBot (js.take i) * j.2.2 = y at *
    generalize totTop (js.take i) * j.2.2 + j.2.1 * totBot (js.take i) = x at *
    refine ⟨_, rfl, _, rfl, y, x, rfl, bt, ?_⟩
    generalize Nat.gcd y x = g at *
    exact ⟨_, rfl, _, rfl, _, _, rfl, rfl, ⟨by omega, by omega⟩, _, rfl, _, rfl, _, _, rfl, rfl, ⟨by omega, by omega⟩, _, _, rfl, s3, _, _, _, rfl⟩
  · rintro σ H3 ⟨s3, v3, v4, v5, rfl⟩
    rw [hxl, List.take_length]
    exact ⟨_, rfl, _, rfl, by show 2 ≤ sizeLine; decide, fun r hr3 => q r _ (s3.free hr3) (s3.trans (same_new hr3)) upd_same⟩
theorem has_sheet (D : DefAt K mg "_law_sheet" s__law_sheet) (B : Blt0 mg) : Has P w K mg base 1 "_law_sheet" ["_law_many", "_law_works_here"] (spPage K) := by
  refine D.has (fun _ _ _ _ _ _ us hl => match us, hl with | [_, _], _ => rfl) fun f fd F => F.ok sc__law_sheet (fun vs H Q E h => ?_) (fun cdv A outer s H vs Q E hr h => ?_)
  · obtain ⟨n, p, js, rfl, _⟩ := h; rfl
  obtain ⟨n, p, js, rfl, hn, hl, G, hD, q⟩ := h
  refine ⟨_, (pss_cons (ps_setLc (i := 5) (own := [("_law_tag", 2), ("_law_e", 3), ("_law_p", 4)]) rfl sc__law_sheet.nd rfl rfl (sw_true rfl rfl rfl (by decide +kernel)) (pi_list (pv 1)) (blkOk_by (N := ["_law_many", "_law_works_here", "_law_tag", "_law_e", "_law_p", "_law_rows"]) (sc := defScope s__law_sheet) (own := [("_law_tag", 2), ("_law_e", 3), ("_law_p", 4)]) (by decide +kernel)) (fun _ _ _ _ _ => (pg_tupK (K := K) (n := 2) rfl rfl (pgs_cons (pg_name (i := 2) sc__law_sheet.nd rfl (.inl rfl) (.inr rfl)) (pgs_cons (pg_tupK (K := K) (n := 2) rfl rfl (pgs_cons (pg_name (i := 3) sc__law_sheet.nd rfl (.inl rfl) (.inr rfl)) (pgs_cons (pg_name (i := 4) sc__law_sheet.nd rfl (.inl rfl) (.inr rfl)) pgs_nil))) pgs_nil)))) (fun _ _ _ _ _ => pts_nil) (fun _ _ _ _ _ => (pe_op op_add_str (pe_op op_add_str (pe_op op_add_str (pe_op op_add_str (pe_op op_add_str pe_str (pv 2)) pe_str) (pe_callTy call_str_int (by rfl) B.zstr (by decide +kernel) (pa_cons (pv 3) pa_nil))) pe_str) (pe_callTy call_str_int (by rfl) B.zstr (by decide +kernel) (pa_cons (pv 4) pa_nil)))))
      (pss_one (ps_ret (pe_join pe_str (pe_op op_cat (pe_lst (pa_cons (pe_op op_add_str pe_str (pe_callTy call_str_int (by rfl) B.zstr (by decide +kernel) (pa_cons (pv 0) pa_nil))) pa_nil)) (pv 5)))))), ?_⟩
  obtain ⟨p', xs, e, hS, hA⟩ := hD.list
  cases e
  have ln := numS_len hn
  have l6 : (Str.ofString "hands ").length = 6 := by decide
  have hxl : xs.length = js.length := by rw [hA.length, List.length_map]
  refine ⟨_, rfl, p, rfl, ⟨_, hS⟩, fun pr hpr => ?_⟩
  refine lc_list (K := K) (a := p) (xs := xs) (fun i H2 => Same H H2 ∧ H2 pr = some (.lst (((js.take i).map rowS).map V.str))) ⟨same_new hpr, upd_same⟩ (fun _ _ _ z => z.1.seq hS) ?_ ?_
  · rintro i x H2 hx ⟨sm, e2⟩
    obtain ⟨j, a, q2, hj, rfl, ha, hq⟩ := job_at hA hx
    have hjm : j ∈ js := List.mem_of_getElem? hj
    have hp := G.part j hjm
    have ht := G.tag j hjm
    obtain ⟨p1, p2, p3, _⟩ := id hp
    have lr := rowS_len ht hp
    have e6 : (rowS j).length = (Str.ofString "work " ++ j.1 ++ Str.ofString " " ++ numS j.2.1 ++ Str.ofString "/" ++ numS j.2.2).length := rfl
    rw [e6, Str.length_append, Str.length_append, Str.length_append, Str.length_append, Str.length_append] at lr
    have big : ∀ {k : Nat}, k ≤ 23 → k ≤ sizeLine := fun h => Nat.le_of_lt (small1000 (by omega))
    refine ⟨a, _, rfl, sameT sm ha, rfl, _, _, rfl, _, _, rfl, q2, _, rfl, sameT sm hq, rfl, _, _, rfl, _, _, rfl, rfl, rfl, rfl, ?_⟩
    refine yesIf ⟨_, rfl, _, _, rfl, rfl, big (by omega), _, _, rfl, rfl, big (by rw [Str.length_append]; omega), ?_⟩
    refine ⟨_, rfl, _, rfl, num_okB (by omega), _, _, rfl, rfl, big (by rw [Str.length_append, Str.length_append]; show _ + (numS j.2.1).length ≤ 23; omega), ?_⟩
    refine ⟨_, _, rfl, rfl, big (by rw [Str.length_append, Str.length_append, Str.length_append]; show _ + _ + _ + (numS j.2.1).length + _ ≤ 23; omega), ?_⟩
    refine ⟨_, rfl, _, rfl, num_okB (by omega), _, _, rfl, rfl, big (by rw [Str.length_append, Str.length_append, Str.length_append, Str.length_append]; show _ + _ + _ + (numS j.2.1).length + _ + (numS j.2.2).length ≤ 23; omega), ?_⟩
    refine ⟨_, e2, ?_, Same.app hpr sm, ?_⟩
    · rw [List.length_map, List.length_map, List.length_take]; exact small1000 (by omega)
    · rw [upd_same, map_take_succ rowS hj, List.map_append]; rfl
  rintro H2 ⟨sm, e2⟩
  rw [hxl, List.take_length] at e2
  dsimp only [L2.start, List.set]
  refine ⟨⟨_, rfl⟩, _, rfl, _, rfl, num_okB hn, _, _, rfl, rfl, ?_, by show 1 ≤ sizeLine; decide, fun ph hph => ?_⟩
  · rw [l6]
    show 6 + (numS n).length ≤ sizeLine
    exact Nat.le_of_lt (small1000 (by omega))
  refine ⟨_, rfl, ph, pr, _, _, rfl, rfl, upd_same, same_new hph _ _ e2, ?_, fun pj hpj => ?_⟩
  · rw [List.length_map, List.length_map]; exact Nat.le_trans (show 1 + js.length ≤ 1000 by omega) (by decide)
  refine ⟨_, pj, rowsOf n js, rfl, rfl, .inl (SqL.of upd_same), ?_, q _ (sm.trans ((same_new hph).trans (same_new hpj)))⟩
  have h1 : ((rowsOf n js).map (·.length)).sum ≤ 10 + 23 * js.length := by
    show (handsS n).length + ((js.map rowS).map (·.length)).sum ≤ _
    have a : (handsS n).length ≤ 10 := by unfold handsS; rw [Str.length_append, l6]; omega
    have b : ∀ l : List Job, (∀ j ∈ l, (rowS j).length ≤ 23) → ((l.map rowS).map (·.length)).sum ≤ 23 * l.length := by
      intro l
      induction l with
      | nil => intro _; exact Nat.le_refl _
      | cons j l ih =>
        intro h
        have h1 := h j List.mem_cons_self
        have h2 := ih fun y hy => h y (List.mem_cons_of_mem _ hy)
        show (rowS j).length + ((l.map rowS).map (·.length)).sum ≤ 23 * (l.length + 1)
        omega
    have c := b js fun j hj => rowS_len (G.tag j hj) (G.part j hj)
    omega
  have h2 : (rowsOf n js).length = js.length + 1 := by unfold rowsOf; rw [List.length_cons, List.length_map]
  have h3 : (Str.ofString "\n").length = 1 := by decide
  rw [h2, h3]
  omega
theorem has_world (D : DefAt K mg "_law_world" s__law_world) (B : Blt0 mg) (h__law_take : Has P w K mg base 1 "_law_take" ["_law_bag_here", "_law_many"] spTake) (h__law_of : Has P w K mg base 2 "_law_of" ["_law_bag_here", "_law_things"] spOne) (h__law_share : Has P w K mg base 3 "_law_share" ["_law_bag_here", "_law_menu"] (spShareOf K)) (h__law_sum : Has P w K mg base 2 "_law_sum" ["_law_shares_here"] (spSumB K)) :
    Has P w K mg base 4 "_law_world" ["_law_bag_here", "_law_menu", "_law_most"] (spWorld K) := by
  refine D.has (fun _ _ _ _ _ _ us hl => match us, hl with | [_, _, _], _ => rfl) fun f fd F => F.ok sc__law_world (fun vs H Q E h => ?_) (fun cdv A outer s H vs Q E hr h => ?_)
  · obtain ⟨b, l, ms, m, rfl, _⟩ := h; rfl
  obtain ⟨b, l, ms, m, rfl, hB, hlb, hl, l0, l1, hm, m0, m6, q⟩ := h
  refine ⟨_, (pss_cons (ps_set (i := 3) sc__law_world.nd rfl (.inl rfl) (pe_lst (pa_cons pe_str (pa_cons pe_str (pa_cons pe_str (pa_cons pe_str (pa_cons pe_str (pa_cons pe_str pa_nil))))))))
      (pss_cons (ps_set (i := 4) sc__law_world.nd rfl (.inl rfl) (pe_lst pa_nil))
      (pss_cons (ps_for PassesOwn.never rfl (pi_range1 (by rfl) B.zrange (pa_cons (pe_op op_add pe_int (pe_h h__law_take (hr.mono (by decide)) (pa_cons (pv 0) (pa_cons (pv 2) pa_nil)))) pa_nil)) (pg_name (i := 5) sc__law_world.nd rfl (.inl rfl)) (pss_one (ps_expr (pe_bm PySem.F.plainAttrs_list PySem.F.slot_list_append PySem.F.type_list_append mt_append (pv 4) (pa_cons (pe_tup (pa_cons (pe_bm PySem.F.plainAttrs_list PySem.F.slot_list_pop PySem.F.type_list_pop mt_popAt (pv 3) (pa_cons (pe_h h__law_take (hr.mono (by decide)) (pa_cons (pv 0) (pa_cons (pe_callB call_len_seq (by rfl) B.zlen (by decide +kernel) (pa_cons (pv 3) pa_nil)) pa_nil))) pa_nil)) (pa_cons (pe_h h__law_share (hr.mono (by decide)) (pa_cons (pv 0) (pa_cons (pv 1) pa_nil))) pa_nil))) pa_nil)))))
      (pss_cons (ps_asg (pe_h h__law_sum (hr.mono (by decide)) (pa_cons (pe_lc (own := [("_law_tag", 6), ("_law_share_here", 7)]) rfl sc__law_world.nd (pi_list (pv 4)) (blkOk_by (N := ["_law_bag_here", "_law_menu", "_law_most", "_law_tags", "_law_works_here", "_law_k", "_law_tag", "_law_share_here", "_law_top", "_law_bottom", "_law_least", "_law_many"]) (sc := defScope s__law_world) (own := [("_law_tag", 6), ("_law_share_here", 7)]) (by decide +kernel)) (fun _ _ _ _ _ => (pg_tupK (K := K) (n := 2) rfl rfl (pgs_cons (pg_name (i := 6) sc__law_world.nd rfl (.inl rfl) (.inr rfl)) (pgs_cons (pg_name (i := 7) sc__law_world.nd rfl (.inl rfl) (.inr rfl)) pgs_nil)))) (fun _ _ _ _ _ => pts_nil) (fun _ _ _ _ _ => (pv 7))) pa_nil)) (pg_tup rfl (pgs_cons (pg_name (i := 8) sc__law_world.nd rfl (.inl rfl)) (pgs_cons (pg_name (i := 9) sc__law_world.nd rfl (.inl rfl)) pgs_nil))))
      (pss_cons (ps_set (i := 10) sc__law_world.nd rfl (.inl rfl) (pe_un un_neg (pe_op op_fdiv (pe_un un_neg (pv 8)) (pv 9))))
      (pss_cons (ps_set (i := 11) sc__law_world.nd rfl (.inl rfl) (pe_callB (call_max2 rfl) (by rfl) B.zmax (by decide +kernel) (pa_cons pe_int (pa_cons (pe_callB (call_min2 rfl) (by rfl) B.zmin (by decide +kernel) (pa_cons pe_int (pa_cons (pe_h h__law_of (hr.mono (by decide)) (pa_cons (pv 0) (pa_cons (pe_lst (pa_cons (pv 10) (pa_cons (pv 10) (pa_cons (pv 10) (pa_cons (pe_op op_sub (pv 10) pe_int) (pa_cons (pe_op op_add (pv 10) pe_int) (pa_cons pe_int pa_nil))))))) pa_nil))) pa_nil))) pa_nil))))
      (pss_one (ps_ret (pe_tup (pa_cons (pv 11) (pa_cons (pv 4) pa_nil))))))))))), ?_⟩
  refine ⟨by show 6 ≤ sizeLine; decide, fun tl htl => ⟨by show 0 ≤ sizeLine; decide, fun wl hwl => ?_⟩⟩
  refine at_heap2 (fun Hx => Same H Hx ∧ Fnd Hx b tl wl ms sixTags []) ⟨(same_new htl).trans (same_new hwl), ⟨same_new hwl _ _ upd_same, upd_same, fun t h => by (cases h), by rw [List.map_nil, List.append_nil]; exact six_nd, by rw [List.map_nil, List.append_nil]; exact six_tag, fun t h => by (cases h)⟩⟩ ?_
  rintro H1 ⟨s1, F1⟩
  have ntl : tl ≠ b := hB.off htl
  have nwl : wl ≠ b := (hB.on (same_new htl)).off hwl
  have fwl : H wl = none := by
    cases e : H wl with
    | none => rfl
    | some o => rw [same_new htl _ _ e] at hwl; cases hwl
  have ntw : tl ≠ wl := fun z => by rw [← z, upd_same] at hwl; cases hwl
  clear hwl
  have B1 := hB.on s1
  dsimp only [L2.start, List.set]
  refine ⟨_, rfl, _, rfl, b, (m : Int), rfl, B1, by omega, by omega, fun r H2 r0 r1 b2 B2 => ?_⟩
  obtain ⟨cn0, rfl⟩ := Int.eq_ofNat_of_zero_le r0
  obtain ⟨cn, hcn⟩ : ∃ n : Nat, (1 : Int) + (cn0 : Int) = (n : Int) := ⟨1 + cn0, by omega⟩
  have hcn' : ((1 : Int) + (cn0 : Int)).toNat = cn := by omega
  have b02 : But b H H2 := (But.of_same s1).trans b2
  have F2 : Fnd H2 b tl wl ms sixTags [] := ⟨b2 _ _ ntl F1.tat, b2 _ _ nwl F1.wat, fun t h => by (cases h), F1.nd, F1.tag, F1.part⟩
  refine ⟨_, _, rfl, rfl, _, rfl, by omega, by omega, for_range (lo := 0) (n := ((1 : Int) + (cn0 : Int)).toNat) (fun i σ Hn => But b H Hn ∧ Bag Hn b ∧ ∃ ts ws, ts.length + i = 6 ∧ ws.length = i ∧ Fnd Hn b tl wl ms ts ws ∧ ∃ v, σ = [some (.ref b), some (.ref l), some (.int (m : Int)), some (.ref tl), some (.ref wl), v, none, none, none, none, none, none])
    ⟨b02, B2, sixTags, [], rfl, rfl, F2, _, rfl⟩ ?_ ?_⟩
  · clear F1 F2 B1 s1 b2 b02 B2
    rintro i σ Hn hi ⟨bn, Bn, ts, ws, lt, lw, F, v, rfl⟩
    rw [hcn'] at hi
    refine ⟨_, rfl, .inl ⟨rfl, _, SqL.of F.wat⟩, _, rfl, .inl ⟨rfl, _, SqL.of F.tat⟩, _, rfl, _, rfl, tl, _, rfl, .inl (SqL.of F.tat), b, (ts.length : Int), by rw [List.length_map]; rfl, Bn, by omega, by omega, fun r H3 r0 r1 b3 B3 => ?_⟩
    obtain ⟨k, rfl⟩ := Int.eq_ofNat_of_zero_le r0
    have hk : k < ts.length := by omega
    obtain ⟨t, ht⟩ : ∃ t, ts[k]? = some t := ⟨_, List.getElem?_eq_getElem hk⟩
    have t3 := b3 _ _ ntl F.tat
    have w3 := b3 _ _ nwl F.wat
    refine ⟨tl, _, (k : Int), k, .str t, rfl, rfl, t3, by omega, by omega, seq_nat (by rw [List.length_map]; exact hk), by rw [List.getElem?_map, ht]; rfl, ?_⟩
    have em : (ts.map V.str).eraseIdx k = (ts.eraseIdx k).map V.str := erase_map V.str ts k
    rw [em]
    have B4 : Bag (upd H3 tl (.lst ((ts.eraseIdx k).map V.str))) b := by
      obtain ⟨x, y, z, h1, h2, e⟩ := B3
      exact ⟨x, y, z, h1, h2, by rw [upd_ne ntl.symm]; exact e⟩
    have b04 : But b H (upd H3 tl (.lst ((ts.eraseIdx k).map V.str))) := fun a o n h => by rw [upd_ne (ne_of_none h htl)]; exact b3 _ _ n (bn a o n h)
    have T4 : TupB b Hn (upd H3 tl (.lst ((ts.eraseIdx k).map V.str))) := (TupB.of b3).trans (TupB.lst t3)
    have e4 : (upd H3 tl (.lst ((ts.eraseIdx k).map V.str))) tl = some (.lst ((ts.eraseIdx k).map V.str)) := upd_same
    have w4 : (upd H3 tl (.lst ((ts.eraseIdx k).map V.str))) wl = some (.lst (ws.map fun t => V.ref t.1)) := by rw [upd_ne ntw.symm]; exact w3
    revert B4 b04 T4 e4 w4
    generalize upd H3 tl (.lst ((ts.eraseIdx k).map V.str)) = H4
    intro B4 b04 T4 e4 w4
    refine ⟨_, rfl, _, rfl, b, l, ms, rfl, B4, hlb, b04 _ _ hlb hl, l0, l1, fun x hx => ⟨(hm x hx).1, Nat.le_trans (hm x hx).2 (by decide)⟩, fun e p q9 H5 GP hm9 hq b5 B5 e9 => ?_⟩
    refine ⟨by show 2 ≤ sizeLine; decide, fun a9 ha9 => ?_⟩
    have w5 := b5 _ _ nwl w4
    have w6 : (upd H5 a9 (.tup [.str t, .ref q9])) wl = some (.lst (ws.map fun t => V.ref t.1)) := same_new ha9 _ _ w5
    have e6 : (upd H5 a9 (.tup [.str t, .ref q9])) tl = some (.lst ((ts.eraseIdx k).map V.str)) := same_new ha9 _ _ (b5 _ _ ntl e4)
    have na9 : a9 ≠ b := B5.off ha9
    have nq9 : q9 ≠ b := B5.ne e9
    refine ⟨wl, _, _, rfl, rfl, w6, by rw [List.length_map]; exact small1000 (by omega), ?_⟩
    refine ⟨fun a o n h => ?_, ?_, ts.eraseIdx k, ws ++ [(a9, q9, (t, e, p))], ?_, by rw [List.length_append, lw]; rfl, ⟨?_, ?_, ?_, ?_, ?_, ?_⟩, _, rfl⟩
    · rw [upd_ne (ne_of_none h fwl)]
      exact same_new ha9 _ _ (b5 _ _ n (b04 a o n h))
    · obtain ⟨x, y, z, h1, h2, e⟩ := B5
      exact ⟨x, y, z, h1, h2, by rw [upd_ne nwl.symm]; exact same_new ha9 _ _ e⟩
    · rw [List.length_eraseIdx_of_lt hk]; omega
    · rw [upd_ne ntw]; exact e6
    · rw [upd_same, List.map_append]; rfl
    · have T7 : TupB b Hn (upd (upd H5 a9 (.tup [.str t, .ref q9])) wl (.lst ((ws.map fun t => V.ref t.1) ++ [.ref a9]))) := T4.trans ((TupB.of b5).trans ((TupB.new ha9).trans (TupB.lst w6)))
      intro x hx
      rcases List.mem_append.mp hx with hx | hx
      · exact (F.wk x hx).step T7
      · rw [List.mem_singleton.mp hx]
        exact ⟨na9, TupB.lst w6 _ _ na9 upd_same, nq9, TupB.lst w6 _ _ nq9 (same_new ha9 _ _ e9)⟩
    · have pm : (ts.eraseIdx k ++ (ws ++ [(a9, q9, (t, e, p))]).map fun t => t.2.2.1).Perm (ts ++ ws.map fun t => t.2.2.1) := by
        rw [List.map_append, ← List.append_assoc]
        exact (List.perm_append_comm).trans ((erase_perm ht).append_right _)
      exact pm.nodup_iff.mpr F.nd
    · have pm : (ts.eraseIdx k ++ (ws ++ [(a9, q9, (t, e, p))]).map fun t => t.2.2.1).Perm (ts ++ ws.map fun t => t.2.2.1) := by
        rw [List.map_append, ← List.append_assoc]
        exact (List.perm_append_comm).trans ((erase_perm ht).append_right _)
      exact fun x hx => F.tag x (pm.mem_iff.mp hx)
    · intro x hx
      rcases List.mem_append.mp hx with hx | hx
      · exact F.part x hx
      · rw [List.mem_singleton.mp hx]
        obtain ⟨m9, hm1, hm2⟩ := hm9
        obtain ⟨g1, g2, g3, g4⟩ := GP
        exact ⟨⟨g1, g2, Nat.le_trans hm2 (hm m9 hm1).2, g4⟩, m9, hm1, hm2⟩
  · clear F1 F2 B1 s1 b2 b02 B2
    rintro σ Hn ⟨bn, Bn, ts, ws, lt, lw, F, v, rfl⟩
    rw [hcn'] at lw lt
    have lws : (ws.map fun t => t.2.2).length = cn := by rw [List.length_map]; exact lw
    refine ⟨_, rfl, wl, rfl, ⟨_, SqL.of F.wat⟩, fun D hD => ?_⟩
    refine lc_list (K := K) (a := wl) (xs := ws.map fun t => V.ref t.1) (fun i Hm => Same Hn Hm ∧ Hm D = some (.lst ((ws.take i).map fun t => V.ref t.2.1))) ⟨same_new hD, upd_same⟩ (fun _ _ _ z => z.1.seq (SqL.of F.wat)) ?_ ?_
    · rintro i x Hm hx ⟨sm, em⟩
      rw [List.getElem?_map] at hx
      obtain ⟨t, ht, rfl⟩ : ∃ t, ws[i]? = some t ∧ V.ref t.1 = x := by
        cases e : ws[i]? with
        | none => rw [e] at hx; cases hx
        | some t => rw [e] at hx; exact ⟨t, rfl, Option.some.inj hx⟩
      have wk := F.wk t (List.mem_of_getElem? ht)
      refine ⟨t.1, _, rfl, SqT.of (sm _ _ wk.2.1), rfl, _, _, rfl, _, _, rfl, rfl, rfl, yesIf ⟨_, rfl, _, em, ?_, Same.app hD sm, ?_⟩⟩
      · rw [List.length_map, List.length_take]; exact small1000 (by omega)
      · rw [upd_same, map_take_succ (fun t : Addr × Addr × Job => V.ref t.2.1) ht]
    rintro Hm ⟨sm, em⟩
    rw [List.length_map, List.take_length] at em
    refine ⟨D, ws.map fun t => t.2.2, rfl, .lst (SqL.of em) (Wk.parts fun t h => (F.wk t h).step (TupB.of (But.of_same sm))), F.good, by omega, fun r H3 hr s3 er => ?_⟩
    refine ⟨r, _, rfl, SqT.of er, rfl, _, _, rfl, _, _, rfl, rfl, ?_⟩
    have hb := bot_le F.good
    have hb0 : 0 < totBot (ws.map fun t => t.2.2) := by
      rw [← (big_low F.good).2]
      exact Nat.div_pos (Nat.le_of_dvd (by decide) (Nat.gcd_dvd_right _ _)) (Nat.gcd_pos_of_pos_right _ (by decide))
    have s03 := sm.trans s3
    clear er hr em hD
    generalize totBot (ws.map fun t => t.2.2) = tb at *
    generalize totTop (ws.map fun t => t.2.2) = tt at *
    refine ⟨_, rfl, _, rfl, _, rfl, _, _, rfl, rfl, ⟨by omega, by omega⟩, _, rfl, ?_⟩
    dsimp only [List.set]
    generalize (-(-(tt : Int) / (tb : Int))) = lz
    refine ⟨_, rfl, _, rfl, _, rfl, _, rfl, _, rfl, _, _, rfl, rfl, _, rfl, _, _, rfl, rfl, by show 6 ≤ sizeLine; decide, fun L hL => ?_⟩
    have B3 := Bn.on s03
    refine ⟨b, L, _, rfl, B3.on (same_new hL), B3.off hL, upd_same, by show 0 < 6; decide, by show 6 ≤ 1000; decide, fun k x H5 hx b5 B5 => ?_⟩
    obtain ⟨z, rfl⟩ : ∃ z : Int, x = .int z := by
      have kc : k < 6 := by
        by_cases c : k < 6
        · exact c
        · rw [List.getElem?_eq_none (by show 6 ≤ k; omega)] at hx; cases hx
      have : k = 0 ∨ k = 1 ∨ k = 2 ∨ k = 3 ∨ k = 4 ∨ k = 5 := by omega
      rcases this with rfl | rfl | rfl | rfl | rfl | rfl <;> cases hx <;> exact ⟨_, rfl⟩
    refine ⟨_, _, rfl, _, _, rfl, ?_⟩
    obtain ⟨n, hn, n1, n6⟩ : ∃ n : Nat, (if (if z < 6 then z else 6) > 1 then (if z < 6 then z else 6) else 1) = (n : Int) ∧ 1 ≤ n ∧ n ≤ 6 := by
      refine ⟨(if (if z < 6 then z else 6) > 1 then (if z < 6 then z else 6) else 1).toNat, ?_, ?_, ?_⟩ <;> split <;> split <;> omega
    rw [hn]
    refine ⟨_, rfl, _, rfl, by show 2 ≤ sizeLine; decide, fun r hr5 => ?_⟩
    have b35 : But b Hn H5 := (But.of_same (s03.trans (same_new hL))).trans b5
    have b05 : But b H H5 := bn.trans b35
    refine q n (ws.map fun t => t.2.2) r wl (ws.map fun t => V.ref t.1) _ n1 n6 F.good (by omega) (by omega) (fun j hj => ?_) (but_free b05 B5 hr5) fwl (b05.trans' (same_new hr5)) (B5.on (same_new hr5)) upd_same (same_new hr5 _ _ (b35 _ _ nwl F.wat)) (Wk.all fun t h => (F.wk t h).step ((TupB.of b35).trans (TupB.new hr5)))
    obtain ⟨t, ht, rfl⟩ := List.mem_map.mp hj
    exact (F.part t ht).2
end
end Ts
namespace Ts
open PySem PySem.Spec PyProof.Rows L2 L2H LamX
section
variable {P : Program} {w : World} {K : PySem.W.Frag} {mg : Str → Option Value} {base : Heap}
theorem has_whole (D : DefAt K mg "_law_whole" s__law_whole) (B : Blt0 mg) : Has P w K mg base 1 "_law_whole" ["_law_thing"] (spWhole K) := by
  refine D.has (fun _ _ _ _ _ _ us hl => match us, hl with | [_], _ => rfl) fun f fd F => F.ok sc__law_whole (fun vs H Q E h => ?_) (fun cdv A outer s H vs Q E hr h => ?_)
  · obtain ⟨v, o, rfl, _⟩ := h; rfl
  obtain ⟨v, o, rfl, hv, q⟩ := h
  refine ⟨_, (pss_one (ps_ret (pe_and (pe_callB call_isi (by rfl) B.zisinstance (by decide +kernel) (pa_cons (pv 0) (pa_cons (pe_ty "int" B.zint) pa_nil))) (pe_one (pe_not (pe_callB call_isi (by rfl) B.zisinstance (by decide +kernel) (pa_cons (pv 0) (pa_cons (pe_ty "bool" B.zbool) pa_nil)))))))), ?_⟩
  cases o with
  | some i =>
    cases hv
    refine ⟨_, rfl, _, _, _, _, _, rfl, .ty "int", .base (.int i), kit_ty (r := true) (by decide +kernel), true, rfl, ?_⟩
    exact iteT ⟨_, rfl, _, _, _, _, _, rfl, .ty "bool", .base (.int i), kit_ty (r := false) (by decide +kernel), false, rfl, q⟩
  | none =>
    obtain ⟨T, hT, ht⟩ := hv
    by_cases tb : T = "bool"
    · subst tb
      refine ⟨_, rfl, _, _, _, _, _, rfl, .ty "int", ht, kit_ty (r := true) (by decide +kernel), true, rfl, ?_⟩
      exact iteT ⟨_, rfl, _, _, _, _, _, rfl, .ty "bool", ht, kit_ty (r := true) (by decide +kernel), true, rfl, q⟩
    · have k : PySem.W.kitOne K (.type T) (.type "int") = some false := by
        have go : ∀ T ∈ ["bool", "str", "NoneType", "list", "tuple", "dict"], T ≠ "bool" → kitB T "int" = some false := by decide +kernel
        exact kit_ty (go T hT tb)
      exact ⟨_, rfl, _, _, _, _, _, rfl, .ty "int", ht, k, false, rfl, iteF q⟩
end
end Ts
namespace Ts
open PySem PySem.Spec PyProof.Rows L2 L2H LamX
section
variable {P : Program} {w : World} {K : PySem.W.Frag} {mg : Str → Option Value} {base : Heap}
theorem has_said {k : Nat} {spA : Sp} (D : DefAt K mg "_law_said" s__law_said) (B : Blt0 mg) (h_accepts : Has P w K mg base k "accepts" ["claim", "certificate"] spA) (hq_accepts : HasQ P w K mg base k "accepts" ["claim", "certificate"] ["certificate", "claim"] back spA) (hk : k ≤ 20) :
    HasG P w K mg base 21 "_law_said" ["_law_asked", "_law_proof_here", "_law_due"] (spSaid spA) := by
  refine D.hasG (fun _ _ _ _ _ _ us hl => match us, hl with | [_, _, _], _ => rfl) fun f fd F => fun_g F sc__law_said (fun vs H Q E h => ?_) (fun cdv A outer s H vs Q hg0 hr h => ?_)
  · obtain ⟨a, c, d, rfl, _⟩ := h; rfl
  obtain ⟨a, c, d, rfl, hA, q⟩ := h
  have hg : (A.deeper (envOfC "_law_said" (defScope s__law_said) s.heap.objs.size f cdv)).guards = some [] := hg0
  refine ⟨_, (pss_one (ps_ret (pe_cmpR op_eq (pe_callB (call_reprD hg (hu100 hr)) (by rfl) B.zrepr (by decide +kernel) (pa_cons (pe_lst (pa_cons (pe_h h_accepts (hr.mono (by omega)) (pa_cons (pv 0) (pa_cons (pv 1) pa_nil))) (pa_cons (pe_hq hq_accepts (hr.mono (by omega)) (pk_cons (pv 1) (pk_cons (pv 0) pk_nil))) pa_nil))) pa_nil)) (pe_callB (call_reprD hg (hu100 hr)) (by rfl) B.zrepr (by decide +kernel) (pa_cons (pe_lst (pa_cons (pv 2) (pa_cons (pv 2) pa_nil))) pa_nil)) (nomark _)))), ?_⟩
  have fits : ∀ d : Bool, (PyData.list [.bool d, .bool d]).showable = true ∧ (PyData.list [.bool d, .bool d]).hasDict = false ∧ (PyData.list [.bool d, .bool d]).depth < 60 ∧ (PyData.list [.bool d, .bool d]).shown.length ≤ sizeLine := fun d => by
    refine ⟨rfl, rfl, by show 1 < 60; decide, Nat.le_of_lt (small1000 ?_)⟩
    cases d <;> decide +kernel
  obtain ⟨f1, f2, f3, f4⟩ := fits d
  refine ⟨_, rfl, _, rfl, hA H (fun _ _ z => z) _ _ fun H1 s1 => ?_⟩
  refine ⟨_, rfl, _, rfl, rfl, hA H1 s1 _ _ fun H2 s2 => ?_⟩
  refine ⟨by show 2 ≤ sizeLine; decide, fun p hp => ⟨p, .list [.bool d, .bool d], rfl, .lst (SqL.of upd_same) (.cons (.bl d) (.cons (.bl d) .nil)), f1, f2, f3, f4, ?_⟩⟩
  have s3 := (s1.trans s2).trans (same_new (o := .lst [.bl d, .bl d]) hp)
  refine ⟨_, rfl, _, rfl, by show 2 ≤ sizeLine; decide, fun p2 hp2 => ⟨p2, .list [.bool d, .bool d], rfl, .lst (SqL.of upd_same) (.cons (.bl d) (.cons (.bl d) .nil)), f1, f2, f3, f4, ?_⟩⟩
  have s4 := s3.trans (same_new (o := .lst [.bl d, .bl d]) hp2)
  refine ⟨rfl, ?_⟩
  show Q (.bl (decide (V.str (PyData.list [.bool d, .bool d]).shown = V.str (PyData.list [.bool d, .bool d]).shown))) _
  rw [decide_eq_true rfl]
  exact q _ s4
end
end Ts
namespace Ts
open PySem PySem.Spec PyProof.Rows L2 L2H LamX
section
variable {P : Program} {w : World} {K : PySem.W.Frag} {mg : Str → Option Value} {base : Heap}
theorem has_kept70 (D : DefAt K mg "_law_kept" s__law_kept) (B : Blt0 mg) : Has P w K mg base 1 "_law_kept" ["_law_shares_here", "_law_had", "_law_moment_here"] (spKept70 K) := by
  refine D.has (fun _ _ _ _ _ _ us hl => match us, hl with | [_, _, _], _ => rfl) fun f fd F => F.ok sc__law_kept (fun vs H Q E h => ?_) (fun cdv A outer s H vs Q E hr h => ?_)
  · obtain ⟨a, h', xs, js, ns, t, rfl, _⟩ := h; rfl
  obtain ⟨a, c, xs, js, ns, t, rfl, hS, hA, hc, gp, l6, ln, q⟩ := h
  refine ⟨_, (pss_cons (ps_for PassesOwn.never rfl (pi_zipN (K := K) rfl (by rfl) B.zzip (pa_cons (pv 0) (pa_cons (pv 1) pa_nil))) (pg_tup rfl (pgs_cons (pg_tup rfl (pgs_cons (pg_name (i := 3) sc__law_kept.nd rfl (.inl rfl)) (pgs_cons (pg_name (i := 4) sc__law_kept.nd rfl (.inl rfl)) pgs_nil))) (pgs_cons (pg_name (i := 5) sc__law_kept.nd rfl (.inl rfl)) pgs_nil))) (pss_one (ps_if (pt_not (pt_chain op_lt op_lt (pe_un un_neg (pv 4)) (pe_op op_sub (pe_op op_mul (pv 5) (pv 4)) (pe_op op_mul (pv 2) (pv 3))) (pv 4))) (pss_one (ps_ret pe_bl)) pss_nil)))
      (pss_one (ps_ret pe_bl))), ?_⟩
  have lx : xs.length = js.length := by rw [hA.length]; unfold sharesD; rw [List.length_map]
  have hn9 : js.length = min xs.length (ns.map V.int).length := by rw [List.length_map, lx, ln, Nat.min_self]
  refine ⟨_, rfl, _, rfl, a, c, xs, ns.map V.int, rfl, hS, hc, ?_⟩
  refine for_it (walk_zipN hn9) (fun i σ Hn => Same H Hn ∧ ((keptM js t ns).take i).all id = true ∧ ∃ v3 v4 v5, σ = [some (.ref a), some (.ref c), some (.int t), v3, v4, v5]) ⟨Same.refl _, rfl, _, _, _, rfl⟩ (fun i σ Hn _ z => ⟨z.1.seq hS, sameT z.1 hc⟩) ?_ ?_
  · rintro i x σ Hm H' hi ⟨sm, ka, v3, v4, v5, rfl⟩ ⟨T, y, z, rfl, hT, rfl, ey, ez⟩
    dsimp only at ey ez
    rw [List.getElem?_map] at ez
    obtain ⟨m, hm, rfl⟩ : ∃ m, ns[i]? = some m ∧ V.int m = z := by
      cases e : ns[i]? with
      | none => rw [e] at ez; cases ez
      | some m => rw [e] at ez; exact ⟨m, rfl, Option.some.inj ez⟩
    have sT : Same H (upd Hm T (.tup [y, .int m])) := sm.trans (same_new hT)
    obtain ⟨j, q9, hj, rfl, hq⟩ := share_at (js := js) (hA.mono sT) ey
    obtain ⟨g1, g2, g3, g4⟩ := gp j (List.mem_of_getElem? hj)
    refine ⟨T, _, rfl, SqT.of upd_same, rfl, _, _, rfl, ⟨q9, _, rfl, hq, rfl, _, _, rfl, _, _, rfl, rfl, ?_⟩⟩
    refine ⟨_, _, rfl, rfl, ?_⟩
    dsimp only [List.set]
    refine ⟨_, rfl, _, rfl, _, rfl, _, rfl, _, _, rfl, rfl, .inr ⟨by omega, by omega⟩, _, rfl, _, rfl, _, _, rfl, rfl, .inr ⟨by omega, by omega⟩, _, _, rfl, rfl, ?_⟩
    have ek := keptM_at (t := t) hj hm
    have hin : keptZ (j.2.1 : Int) (j.2.2 : Int) t m ∈ keptM js t ns := by
      have : keptZ (j.2.1 : Int) (j.2.2 : Int) t m ∈ (keptM js t ns).take (i + 1) := by rw [ek]; exact List.mem_append_right _ (List.mem_singleton.mpr rfl)
      exact List.mem_of_mem_take this
    have no : keptZ (j.2.1 : Int) (j.2.2 : Int) t m = false → Q (.bl false) (upd Hm T (.tup [V.ref q9, .int m])) := fun z => by
      have ez : keptAll js t ns = false := by
        cases e : keptAll js t ns with
        | false => rfl
        | true =>
          have := List.all_eq_true.mp (show (keptM js t ns).all id = true from e) _ hin
          rw [z] at this; cases this
      have := q _ sT
      rwa [ez] at this
    have kz : keptZ (j.2.1 : Int) (j.2.2 : Int) t m = decide (-(j.2.2 : Int) < (m * (j.2.2 : Int) - t * (j.2.1 : Int)) ∧ (m * (j.2.2 : Int) - t * (j.2.1 : Int)) < (j.2.2 : Int)) := by
      unfold keptZ
      congr 1
      split <;> (apply propext; omega)
    refine ⟨_, _, rfl, rfl, _, rfl, ?_⟩
    by_cases h1 : -(j.2.2 : Int) < (m * (j.2.2 : Int) - t * (j.2.1 : Int))
    · rw [decide_eq_true h1, if_pos rfl]
      refine ⟨_, rfl, _, _, rfl, rfl, _, rfl, ?_⟩
      by_cases h2 : (m * (j.2.2 : Int) - t * (j.2.1 : Int)) < (j.2.2 : Int)
      · rw [decide_eq_true h2]
        refine iteF ⟨sT, ?_, _, _, _, rfl⟩
        rw [ek, List.all_append, ka, kz, decide_eq_true ⟨h1, h2⟩]; rfl
      · rw [decide_eq_false h2]
        exact iteT (no (by rw [kz]; exact decide_eq_false fun z => h2 z.2))
    · rw [decide_eq_false h1, if_neg Bool.false_ne_true]
      exact ⟨_, rfl, iteT (no (by rw [kz]; exact decide_eq_false fun z => h1 z.1))⟩
  · rintro σ Hn ⟨sn, ka, v3, v4, v5, rfl⟩
    rw [← keptM_len (t := t) ln, List.take_length] at ka
    have := q Hn sn
    rw [show keptAll js t ns = true from ka] at this
    exact this
theorem has_sets70 (D : DefAt K mg "_law_sets" s__law_sets) (B : Blt0 mg) : Has P w K mg base 1 "_law_sets" ["_law_size", "_law_most"] (spSetsJ K) := by
  refine D.has (fun _ _ _ _ _ _ us hl => match us, hl with | [_, _], _ => rfl) fun f fd F => F.ok sc__law_sets (fun vs H Q E h => ?_) (fun cdv A outer s H vs Q E hr h => ?_)
  · obtain ⟨n, m, rfl, _⟩ := h; rfl
  obtain ⟨n, m, rfl, n6, m1, q⟩ := h
  refine ⟨_, (pss_cons (ps_set (i := 2) sc__law_sets.nd rfl (.inl rfl) (pe_lst (pa_cons (pe_tup pa_nil) pa_nil)))
      (pss_cons (ps_for PassesOwn.never rfl (pi_range1 (by rfl) B.zrange (pa_cons (pv 0) pa_nil)) (pg_name (i := 3) sc__law_sets.nd rfl (.inr rfl)) (pss_one (ps_set (i := 2) sc__law_sets.nd rfl (.inl rfl) (pe_op op_cat (pv 2) (pe_lc (own := [("_law_lot_here", 4)]) rfl sc__law_sets.nd (pi_list (pv 2)) (blkOk_by (N := ["_law_size", "_law_most", "_law_found", "_law_k", "_law_lot_here"]) (sc := defScope s__law_sets) (own := [("_law_lot_here", 4)]) (by decide +kernel)) (fun _ _ _ _ _ => (pg_name (i := 4) sc__law_sets.nd rfl (.inl rfl) (.inr rfl))) (fun _ _ _ _ _ => (pts_one (pt_cmpR op_lt (pe_callB (lenS (K := K) rfl) (by rfl) B.zlen (by decide +kernel) (pa_cons (pv 4) pa_nil)) (pv 1) (nomark _)))) (fun _ _ _ _ _ => (pe_op (op_catUK (K := K) rfl) (pv 4) (pe_tup (pa_cons (pv 3) pa_nil)))))))))
      (pss_one (ps_ret (pe_callB (cr_sortE (hu2 (hu64 hr))) (by rfl) B.zsorted (by decide +kernel) (pa_cons (pv 2) pa_nil)))))), ?_⟩
  refine ⟨by show 0 ≤ sizeLine; decide, fun e0 he0 => ⟨by show 1 ≤ sizeLine; decide, fun L0 hL0 => ?_⟩⟩
  have s1 : Same H (upd (upd H e0 (.tup [])) L0 (.lst [.ref e0])) := (same_new he0).trans (same_new hL0)
  have f1 : (upd (upd H e0 (.tup [])) L0 (.lst [.ref e0])) e0 = some (.tup []) := same_new hL0 _ _ upd_same
  have f2 : (upd (upd H e0 (.tup [])) L0 (.lst [.ref e0])) L0 = some (.lst [.ref e0]) := upd_same
  revert s1 f1 f2
  generalize upd (upd H e0 (.tup [])) L0 (.lst [.ref e0]) = H1
  intro s1 f1 f2
  dsimp only [List.set]
  refine ⟨_, rfl, _, rfl, by omega, by omega, for_range (lo := 0) (n := ((n : Nat) : Int).toNat) (fun i σ Hn => Same H Hn ∧ ∃ L ys v3 v4, Hn L = some (.lst ys) ∧ DpAll K Hn ys ((setsL i m).map rowD) ∧ σ = [some (.int (n : Int)), some (.int (m : Int)), some (.ref L), v3, v4])
    ⟨s1, L0, [.ref e0], _, _, f2, .cons (.tup (SqT.of f1) .nil) .nil, rfl⟩ ?_ ?_⟩
  · rintro i σ H2 hi ⟨s2, L, ys, v3, v4, e2, D2, rfl⟩
    have ly : ys.length ≤ 64 := by
      rw [D2.length, List.length_map]
      refine Nat.le_trans (List.length_filter_le _ _) ?_
      rw [subsL_len]; exact Nat.pow_le_pow_right (n := 2) (by decide) (show i ≤ 6 by omega)
    dsimp only [List.set]
    refine ⟨_, rfl, _, rfl, L, rfl, ⟨_, SqL.of e2⟩, fun pl hpl => ?_⟩
    refine lc_list (K := K) (a := L) (xs := ys) (fun j Hm => Same H2 Hm ∧ ∃ zs, Hm pl = some (.lst zs) ∧ zs.length ≤ j ∧ DpAll K (hid pl Hm) zs (((((setsL i m).take j).filter fun s => decide (s.length < m)).map (· ++ [(i : Int)])).map rowD)) ⟨same_new hpl, [], upd_same, Nat.le_refl _, by rw [List.take_zero]; exact .nil⟩ (fun _ _ _ z => z.1.seq (SqL.of e2)) ?_ ?_
    · rintro j x Hm hx ⟨sm, zs, em, lz, Dz⟩
      obtain ⟨d, hd, hv⟩ := D2.get hx
      rw [List.getElem?_map] at hd
      obtain ⟨r, hr1, rfl⟩ : ∃ r, (setsL i m)[j]? = some r ∧ rowD r = d := by
        cases e : (setsL i m)[j]? with
        | none => rw [e] at hd; cases hd
        | some r => rw [e] at hd; exact ⟨r, rfl, Option.some.inj hd⟩
      obtain ⟨t, xs, rfl, hT, hX⟩ := hv.tuple
      rw [dpa_int_eq hX] at hT
      have lr := subsL_each i r (List.mem_filter.mp (List.mem_of_getElem? hr1)).1
      have jl : j < ys.length := (List.getElem?_eq_some_iff.mp hx).1
      refine ⟨rfl, _, rfl, t, _, rfl, .inr (sameT sm hT), _, rfl, _, _, rfl, rfl, _, rfl, ?_⟩
      rw [List.length_map]
      have e8 : ((setsL i m).take (j + 1)).filter (fun s => decide (s.length < m)) = ((setsL i m).take j).filter (fun s => decide (s.length < m)) ++ [r].filter (fun s => decide (s.length < m)) := by rw [List.take_add_one, hr1, List.filter_append]; rfl
      refine ite2 (fun c => ?_) (fun c => ?_)
      · have c2 : r.length < m := by have := of_decide_eq_true c; omega
        refine ⟨_, rfl, _, rfl, by show 1 ≤ sizeLine; decide, fun q1 hq1 => ⟨t, q1, _, _, rfl, rfl, sameT (sm.trans (same_new hq1)) hT, SqT.of upd_same, ?_, fun p2 H5 s5 c5 S5 => ?_⟩⟩
        · rw [List.length_map]; exact Nat.le_of_lt (small1000 (show r.length + 1 ≤ 1000 by omega))
        have s15 : Same Hm H5 := (same_new (o := .tup [.int (0 + (i : Int))]) hq1).trans s5
        have em5 := s15 _ _ em
        refine ⟨zs, em5, small1000 (by omega), Same.app hpl (sm.trans s15), zs ++ [.ref p2], upd_same, by rw [List.length_append]; show zs.length + 1 ≤ j + 1; omega, ?_⟩
        have e3 : r.map V.int ++ [V.int (0 + (i : Int))] = (r ++ [(i : Int)]).map V.int := by
          rw [List.map_append, show (0 : Int) + (i : Int) = (i : Int) by omega]; rfl
        rw [e3] at S5
        have Dn : Dp K (hid pl H5) (.ref p2) (rowD (r ++ [(i : Int)])) := .tup (seqT_hide em5 S5) (.ints _)
        have A := ((Dz.mono (hid_same (b := pl) s15)).snoc Dn).mono (hid_put (o := .lst (zs ++ [.ref p2])))
        rw [e8, show [r].filter (fun s : List Int => decide (s.length < m)) = [r] by simp [c2], List.map_append, List.map_append]
        exact A
      · have c2 : ¬ r.length < m := fun z => c (decide_eq_true (by omega))
        refine ⟨sm, zs, em, by omega, ?_⟩
        rw [e8, show [r].filter (fun s : List Int => decide (s.length < m)) = [] by simp [c2], List.append_nil]
        exact Dz
    rintro Hm ⟨sm, zs, em, lz, Dz⟩
    rw [List.take_of_length_le (by rw [D2.length, List.length_map]; exact Nat.le_refl _)] at Dz
    refine ⟨L, pl, ys, zs, rfl, rfl, sm _ _ e2, em, Nat.le_of_lt (small1000 (by omega)), fun p hp => ⟨(s2.trans sm).trans (same_new hp), p, ys ++ zs, _, _, upd_same, ?_, rfl⟩⟩
    rw [sets_succ70, List.map_append]
    exact ((D2.mono sm).mono (same_new hp)).append ((Dz.mono hid_sub).mono (same_new hp))
  · rintro σ H2 ⟨s2, L, ys, v3, v4, e2, D2, rfl⟩
    have en : ((n : Nat) : Int).toNat = n := by omega
    rw [en] at D2
    refine ⟨_, rfl, L, ys, setsL n m, rfl, SqL.of e2, D2, sets_tail n m, fun ys2 rows2 p D3 S1 S2 hp => ?_⟩
    have h0 : H p = none := by
      cases e : H p with
      | none => rfl
      | some o => rw [s2 _ _ e] at hp; cases hp
    exact q p ys2 rows2 _ S1 S2 h0 (s2.trans (same_new hp)) upd_same (D3.mono (same_new hp))
end
end Ts
namespace Ts
open PySem PySem.Spec PyProof.Rows L2 L2H LamX
section
variable {P : Program} {w : World} {K : PySem.W.Frag} {mg : Str → Option Value} {base : Heap}
theorem has_circle67 (D : DefAt K mg "_law_circle" s__law_circle) (B : Blt0 mg) (h__law_common : Has P w K mg base 1 "_law_common" ["_law_one", "_law_two"] spCommon) : Has P w K mg base 2 "_law_circle" ["_law_shares_here"] (spCircle67 K) := by
  refine D.has (fun _ _ _ _ _ _ us hl => match us, hl with | [_], _ => rfl) fun f fd F => F.ok sc__law_circle (fun vs H Q E h => ?_) (fun cdv A outer s H vs Q E hr h => ?_)
  · obtain ⟨a, xs, js, rfl, _⟩ := h; rfl
  obtain ⟨a, xs, js, rfl, hS, hA, G, l6, q⟩ := h
  refine ⟨_, (pss_cons (ps_set (i := 1) sc__law_circle.nd rfl (.inl rfl) pe_int)
      (pss_cons (ps_for PassesOwn.never rfl (pi_list (pv 0)) (pg_tup rfl (pgs_cons (pg_name (i := 2) sc__law_circle.nd rfl (.inl rfl)) (pgs_cons (pg_name (i := 3) sc__law_circle.nd rfl (.inl rfl)) pgs_nil))) (pss_one (ps_set (i := 1) sc__law_circle.nd rfl (.inl rfl) (pe_op op_mul (pe_op op_fdiv (pv 1) (pe_h h__law_common (hr.mono (by decide)) (pa_cons (pv 1) (pa_cons (pv 3) pa_nil)))) (pv 3)))))
      (pss_one (ps_ret (pv 1))))), ?_⟩
  have lx : xs.length = js.length := by rw [hA.length]; unfold sharesD; rw [List.length_map]
  refine ⟨_, rfl, a, rfl, ⟨_, hS⟩, for_list (K := K) (a := a) (xs := xs) (fun i σ Hn => Hn = H ∧ ∃ v2 v3, σ = [some (.ref a), some (.int (spanN (js.take i) : Int)), v2, v3]) ⟨rfl, _, _, rfl⟩ (fun _ _ _ _ z => z.1 ▸ hS) ?_ ?_⟩
  · rintro i x σ Hn hx ⟨rfl, v2, v3, rfl⟩
    obtain ⟨j, q9, hj, rfl, hq⟩ := share_at (js := js) hA hx
    obtain ⟨g1, g2, g3, g4⟩ := G.part j (List.mem_of_getElem? hj)
    refine ⟨q9, _, rfl, hq, rfl, _, _, rfl, _, _, rfl, rfl, ?_⟩
    dsimp only [List.set]
    have sd : spanN (js.take i) ∣ 720720 := span_of_all fun k hk => (by obtain ⟨z1, z2, z3, z4⟩ := G.part k (List.mem_of_mem_take hk); exact dvd_big (by omega) z3)
    have sl : spanN (js.take i) ≤ 720720 := Nat.le_of_dvd (by decide) sd
    have s0 : 0 < spanN (js.take i) := Nat.pos_of_dvd_of_pos sd (by decide)
    have gd : Nat.gcd (spanN (js.take i)) j.2.2 ∣ spanN (js.take i) := Nat.gcd_dvd_left _ _
    have g0 : 0 < Nat.gcd (spanN (js.take i)) j.2.2 := Nat.pos_of_dvd_of_pos gd s0
    have gl := Nat.le_of_dvd s0 gd
    refine ⟨_, rfl, _, rfl, _, rfl, spanN (js.take i), j.2.2, rfl, Nat.lt_of_lt_of_le (show j.2.2 < 2 ^ 5 by omega) (Nat.pow_le_pow_right (by decide) (by decide)), _, _, rfl, rfl, ⟨by omega, by omega⟩, ?_⟩
    refine ⟨_, rfl, _, _, rfl, rfl, .inr ⟨by omega, by omega⟩, ?_⟩
    refine ⟨rfl, some (.int (j.2.1 : Int)), some (.int (j.2.2 : Int)), ?_⟩
    rw [span_step hj]
    have e9 : ((spanN (js.take i) : Nat) : Int) / (Nat.gcd (spanN (js.take i)) j.2.2 : Int) * (j.2.2 : Int) = ((Nat.lcm (spanN (js.take i)) j.2.2 : Nat) : Int) := by
      rw [show Nat.lcm (spanN (js.take i)) j.2.2 = spanN (js.take i) / Nat.gcd (spanN (js.take i)) j.2.2 * j.2.2 by unfold Nat.lcm; rw [Nat.div_mul_right_comm gd]]
      push_cast
      rfl
    dsimp only [List.set]
    rw [e9]
  · rintro σ Hn ⟨rfl, v2, v3, rfl⟩
    rw [lx, List.take_length]
    exact ⟨_, rfl, q⟩
theorem has_border67 (D : DefAt K mg "_law_border" s__law_border) : Has P w K mg base 1 "_law_border" ["_law_share_here", "_law_turn_here"] (spBorder67 K) := by
  refine D.has (fun _ _ _ _ _ _ us hl => match us, hl with | [_, _], _ => rfl) fun f fd F => F.ok sc__law_border (fun vs H Q E h => ?_) (fun cdv A outer s H vs Q E hr h => ?_)
  · obtain ⟨v, e, p, j, rfl, _⟩ := h; rfl
  obtain ⟨v, e, p, j, rfl, hv, g, j0, j1, q⟩ := h
  obtain ⟨g1, g2, g3, g4⟩ := g
  refine ⟨_, (pss_one (ps_ret (pe_un un_neg (pe_op op_fdiv (pe_op op_mul (pe_un un_neg (pv 1)) (pe_ix ix_tup (pv 0) pe_int (fun _ _ => rfl))) (pe_ix ix_tup (pv 0) pe_int (fun _ _ => rfl)))))), ?_⟩
  obtain ⟨a, xs, rfl, hT, hX⟩ := hv.tuple
  obtain ⟨x1, x2, rfl, h1, h2⟩ := hX.two
  rw [h1.int_eq, h2.int_eq] at hT
  refine ⟨_, rfl, _, rfl, _, rfl, a, _, 1, .int (p : Int), rfl, rfl, hT, rfl, _, _, rfl, rfl, .inr ⟨by omega, by omega⟩, ?_⟩
  refine ⟨_, rfl, a, _, 0, .int (e : Int), rfl, rfl, hT, rfl, _, _, rfl, rfl, ⟨by omega, by omega⟩, _, rfl, ?_⟩
  exact q
theorem has_laps67 (D : DefAt K mg "_law_laps" s__law_laps) (h__law_border : Has P w K mg base 1 "_law_border" ["_law_share_here", "_law_turn_here"] (spBorder67 K)) : Has P w K mg base 2 "_law_laps" ["_law_share_here", "_law_turn_here"] (spLaps67 K) := by
  refine D.has (fun _ _ _ _ _ _ us hl => match us, hl with | [_, _], _ => rfl) fun f fd F => F.ok sc__law_laps (fun vs H Q E h => ?_) (fun cdv A outer s H vs Q E hr h => ?_)
  · obtain ⟨v, e, p, j, rfl, _⟩ := h; rfl
  obtain ⟨v, e, p, j, rfl, hv, g, j0, j1, q⟩ := h
  refine ⟨_, (pss_one (ps_ret (pe_cmpR op_gt (pe_h h__law_border (hr.mono (by decide)) (pa_cons (pv 0) (pa_cons (pv 1) pa_nil))) (pe_op op_fdiv (pe_op op_mul (pv 1) (pe_ix ix_tup (pv 0) pe_int (fun _ _ => rfl))) (pe_ix ix_tup (pv 0) pe_int (fun _ _ => rfl))) (nomark _)))), ?_⟩
  obtain ⟨a, xs, rfl, hT, hX⟩ := hv.tuple
  obtain ⟨x1, x2, rfl, h1, h2⟩ := hX.two
  have hT' := hT
  rw [h1.int_eq, h2.int_eq] at hT'
  obtain ⟨g1, g2, g3, g4⟩ := g
  refine ⟨_, rfl, _, rfl, .ref a, e, p, j, rfl, hv, ⟨g1, g2, g3, g4⟩, j0, j1, ?_⟩
  refine ⟨_, rfl, _, rfl, a, _, 1, .int (p : Int), rfl, rfl, hT', rfl, _, _, rfl, rfl, .inr ⟨by omega, by omega⟩, ?_⟩
  refine ⟨_, rfl, a, _, 0, .int (e : Int), rfl, rfl, hT', rfl, _, _, rfl, rfl, ⟨by omega, by omega⟩, _, _, rfl, rfl, ?_⟩
  exact q
end
end Ts
namespace Ts
open PySem PySem.Spec PyProof.Rows L2 L2H LamX
section
variable {P : Program} {w : World} {K : PySem.W.Frag} {mg : Str → Option Value} {base : Heap}
theorem or67 {r : Bool} {X Z : Prop} (h : X) (hz : r = false → X → Z) : if r = true then X else Z := by
  cases r
  · exact hz rfl h
  · exact h
theorem lap67_mul {e p : Nat} {m : Int} (he : 0 < e) : lap67 e p ((e : Int) * m) = false := by
  have e0 : (e : Int) ≠ 0 := by omega
  refine decide_eq_false ?_
  show ¬ -(-((e : Int) * m) * (p : Int) / (e : Int)) > (e : Int) * m * (p : Int) / (e : Int)
  have a1 : -((e : Int) * m) * (p : Int) = (e : Int) * (-m * (p : Int)) := by rw [← Int.mul_neg, Int.mul_assoc]
  have a2 : (e : Int) * m * (p : Int) = (e : Int) * (m * (p : Int)) := Int.mul_assoc _ _ _
  rw [a1, a2, Int.mul_ediv_cancel_left _ e0, Int.mul_ediv_cancel_left _ e0, Int.neg_mul]
  omega
theorem mult67 {e : Nat} {j : Int} (he : 0 < e) (hj : 1 ≤ j) : ∃ m : Int, j ≤ (e : Int) * m ∧ (e : Int) * m < j + (e : Int) := by
  have e0 : 0 < (e : Int) := by omega
  refine ⟨-(-j / (e : Int)), ?_, ?_⟩
  · have h1 := Int.ediv_mul_le (-j) (show (e : Int) ≠ 0 by omega)
    rw [Int.mul_neg, Int.mul_comm]; omega
  · have h2 := Int.lt_ediv_add_one_mul_self (-j) e0
    rw [Int.add_mul, Int.one_mul] at h2
    rw [Int.mul_neg, Int.mul_comm]; omega
theorem has_group67 (D : DefAt K mg "_law_group" s__law_group) (B : Blt0 mg) (h__law_border : Has P w K mg base 1 "_law_border" ["_law_share_here", "_law_turn_here"] (spBorder67 K)) (h__law_laps : Has P w K mg base 2 "_law_laps" ["_law_share_here", "_law_turn_here"] (spLaps67 K)) : Has P w K mg base 3 "_law_group" ["_law_share_here", "_law_turn_here"] (spGroup67 K) := by
  refine D.has (fun _ _ _ _ _ _ us hl => match us, hl with | [_, _], _ => rfl) fun f fd F => F.ok sc__law_group (fun vs H Q E h => ?_) (fun cdv A outer s H vs Q E hr h => ?_)
  · obtain ⟨v, e, p, j, rfl, _⟩ := h; rfl
  obtain ⟨v, e, p, j, rfl, hv, g, j0, j1, q⟩ := h
  refine ⟨_, (pss_cons (ps_asg (pv 0) (pg_tup rfl (pgs_cons (pg_name (i := 2) sc__law_group.nd rfl (.inl rfl)) (pgs_cons (pg_name (i := 3) sc__law_group.nd rfl (.inl rfl)) pgs_nil))))
      (pss_cons (ps_if (pt_cmpR op_lt (pe_op op_mul pe_int (pv 2)) (pv 3) (nomark _)) (pss_one (ps_ret pe_int)) pss_nil)
      (pss_cons (ps_par (i := 4) (j := 5) (by rfl) sc__law_group.nd rfl rfl (by decide) rfl rfl (pa_cons (pe_h h__law_border (hr.mono (by decide)) (pa_cons (pv 0) (pa_cons (pv 1) pa_nil))) (pa_cons (pe_lst pa_nil) pa_nil)) (by rfl))
      (pss_cons (ps_for PassesOwn.never rfl (pi_range2 (by rfl) B.zrange (pa_cons (pv 1) (pa_cons (pe_op op_add (pe_op op_add (pv 1) (pv 2)) pe_int) pa_nil))) (pg_name (i := 6) sc__law_group.nd rfl (.inl rfl)) (pss_cons (ps_set (i := 7) sc__law_group.nd rfl (.inl rfl) (pe_h h__law_border (hr.mono (by decide)) (pa_cons (pv 0) (pa_cons (pv 6) pa_nil))))
      (C8.pss_cut (ps_if (pt_not (pt_val (pe_h h__law_laps (hr.mono (by decide)) (pa_cons (pv 0) (pa_cons (pv 6) pa_nil))))) (pss_one (ps_expr (pe_bm PySem.F.plainAttrs_list PySem.F.slot_list_append PySem.F.type_list_append mt_append (pv 5) (pa_cons (pv 7) pa_nil)))) pss_nil)
      (pss_one (ps_if (PW.pt (pw_and (pt_cmpR op_eq (pe_op op_sub (pv 7) (pe_op op_fdiv (pe_op op_mul (pe_op op_sub (pv 6) pe_int) (pv 3)) (pv 2))) pe_int (nomark _)) (pw_and1 (pt_cmpR op_ge (pe_op op_sub (pv 7) pe_int) (pv 4) (nomark _))))) (pss_one (ps_expr (pe_bm PySem.F.plainAttrs_list PySem.F.slot_list_append PySem.F.type_list_append mt_append (pv 5) (pa_cons (pe_op op_sub (pv 7) pe_int) pa_nil)))) pss_nil)))))
      (pss_one (ps_ret (pe_callB (cr_min rfl) (by rfl) B.zmin (by decide +kernel) (pa_cons (pv 5) pa_nil)))))))), ?_⟩
  have ⟨g1, g2, g3, g4⟩ := g
  obtain ⟨a, xs, rfl, hT, hX⟩ := hv.tuple
  obtain ⟨x1, x2, rfl, h1, h2⟩ := hX.two
  have hT' := hT
  rw [h1.int_eq, h2.int_eq] at hT'
  refine ⟨_, rfl, a, _, rfl, hT', rfl, _, _, rfl, _, _, rfl, rfl, ?_⟩
  dsimp only [L2.start, List.map, List.set]
  refine ⟨_, rfl, _, _, rfl, rfl, .inr ⟨by omega, by omega⟩, _, rfl, _, _, rfl, rfl, _, rfl, ite2 (fun c => q 0 H (Same.refl _) (by decide) (by decide)) (fun c => ?_)⟩
  have bd : ∀ k : Int, 0 ≤ k → k ≤ 10 ^ 10 → 0 ≤ bor67 e p k ∧ bor67 e p k ≤ 2 * 10 ^ 11 := fun k k0 k1 => by
    have e0 : 0 < (e : Int) := by omega
    have p16 : (p : Int) ≤ 16 := by omega
    have hm : 0 ≤ k * (p : Int) := Int.mul_nonneg k0 (by omega)
    have hm2 : k * (p : Int) ≤ 10 ^ 10 * 16 := Int.mul_le_mul k1 p16 (by omega) (by decide)
    have b0 := bor67_bd g k0 (by omega)
    refine ⟨b0.1, ?_⟩
    show -(-k * (p : Int) / (e : Int)) ≤ 2 * 10 ^ 11
    have a2 : -(k * (p : Int)) ≤ -(k * (p : Int)) / (e : Int) := by
      have h : -(k * (p : Int)) * (e : Int) ≤ -(k * (p : Int)) * 1 := Int.mul_le_mul_of_nonpos_left (by omega) (by omega)
      rw [Int.mul_one] at h
      exact (Int.le_ediv_iff_mul_le e0).mpr h
    rw [Int.neg_mul]; omega
  refine ⟨_, rfl, _, rfl, .ref a, e, p, j, rfl, hv, g, by omega, by omega, by show 0 ≤ sizeLine; decide, fun L hL => ⟨_, _, rfl, ?_⟩⟩
  have sL := same_new (o := .lst ([] : List V)) hL
  dsimp only [List.set]
  have en : (j + (e : Int) + 1 - j).toNat = e + 1 := by omega
  refine ⟨_, rfl, _, rfl, _, rfl, _, _, rfl, rfl, _, _, rfl, rfl, j, j + (e : Int) + 1, rfl, ⟨by omega, by omega, by omega, by omega⟩, ?_⟩
  rw [en]
  refine for_range (lo := j) (n := e + 1) (fun i σ Hn => Same H Hn ∧ ∃ (ns : List Int) (v6 v7 : Option V), Hn L = some (.lst (ns.map V.int)) ∧ ns.length ≤ 2 * i ∧ (∀ n ∈ ns, -(10 ^ 12) ≤ n ∧ n ≤ 10 ^ 12) ∧ (∀ k : Int, j ≤ k → k < j + (i : Int) → lap67 e p k = false → 0 < ns.length) ∧ σ = [some (.ref a), some (.int j), some (.int (e : Int)), some (.int (p : Int)), some (.int (bor67 e p j)), some (.ref L), v6, v7])
    ⟨sL, [], _, _, upd_same, Nat.le_refl _, (fun n hn => by cases hn), (fun k k1 k2 _ => absurd k1 (by omega)), rfl⟩ ?_ ?_
  · rintro i σ Hn hi ⟨sn, ns, v6, v7, eL, ln, hb, hne, rfl⟩
    have b6 := bd (j + (i : Int)) (by omega) (by omega)
    have hvn := (show Dp K Hn (.ref a) (partD e p) from hv.mono sn)
    refine ⟨_, rfl, _, rfl, .ref a, e, p, j + (i : Int), rfl, hvn, g, by omega, by omega, ?_⟩
    dsimp only [List.set]
    refine ⟨fun σ' Hn => Same H Hn ∧ ∃ (ns : List Int), Hn L = some (.lst (ns.map V.int)) ∧ ns.length ≤ 2 * i + 1 ∧ (∀ n ∈ ns, -(10 ^ 12) ≤ n ∧ n ≤ 10 ^ 12) ∧ (∀ k : Int, j ≤ k → k < j + ((i + 1 : Nat) : Int) → lap67 e p k = false → 0 < ns.length) ∧ σ' = [some (.ref a), some (.int j), some (.int (e : Int)), some (.int (p : Int)), some (.int (bor67 e p j)), some (.ref L), some (.int (j + (i : Int))), some (.int (bor67 e p (j + (i : Int))))], ?_, ?_⟩
    · refine ⟨_, rfl, _, rfl, .ref a, e, p, j + (i : Int), rfl, hvn, g, by omega, by omega, _, rfl, ?_⟩
      cases el : lap67 e p (j + (i : Int)) with
      | true => exact iteF ⟨sn, ns, eL, by omega, hb, (fun k k1 k2 k3 => by
          by_cases kz : k = j + (i : Int)
          · rw [kz, el] at k3; cases k3
          · exact hne k k1 (by omega) k3), rfl⟩
      | false =>
        refine iteT ⟨_, rfl, .inl ⟨rfl, _, SqL.of eL⟩, _, rfl, L, _, _, rfl, rfl, eL, by rw [List.length_map]; exact small1000 (by omega), Same.app hL sn, ns ++ [bor67 e p (j + (i : Int))], by rw [upd_same, List.map_append]; rfl, by rw [List.length_append]; show ns.length + 1 ≤ _; omega, fun n hn => ?_, fun k _ _ _ => by rw [List.length_append]; show 0 < ns.length + 1; omega, rfl⟩
        rcases List.mem_append.mp hn with h | h
        · exact hb n h
        · rw [List.mem_singleton.mp h]; omega
    clear eL ln hb hne hvn sn ns
    rintro σ Hn ⟨sn, ns, eL, ln, hb, hne, rfl⟩
    have nxt : ∀ {σ : L2.St}, σ = [some (.ref a), some (.int j), some (.int (e : Int)), some (.int (p : Int)), some (.int (bor67 e p j)), some (.ref L), some (.int (j + (i : Int))), some (.int (bor67 e p (j + (i : Int))))] → Same H Hn ∧ ∃ (ns : List Int) (v6 v7 : Option V), Hn L = some (.lst (ns.map V.int)) ∧ ns.length ≤ 2 * (i + 1) ∧ (∀ n ∈ ns, -(10 ^ 12) ≤ n ∧ n ≤ 10 ^ 12) ∧ (∀ k : Int, j ≤ k → k < j + ((i + 1 : Nat) : Int) → lap67 e p k = false → 0 < ns.length) ∧ σ = [some (.ref a), some (.int j), some (.int (e : Int)), some (.int (p : Int)), some (.int (bor67 e p j)), some (.ref L), v6, v7] := fun e9 =>
      ⟨sn, ns, _, _, eL, by omega, hb, hne, e9⟩
    have bu := bd (j + (i : Int)) (by omega) (by omega)
    refine ⟨_, rfl, _, rfl, _, _, rfl, rfl, _, rfl, _, _, rfl, rfl, .inr ⟨by omega, by omega⟩, _, rfl, _, _, rfl, rfl, ⟨by omega, by omega⟩, _, _, rfl, rfl, rfl, _, rfl, ite2 (fun c1 => ?_) (fun c1 => ?_)⟩
    · refine ⟨_, rfl, _, _, rfl, rfl, _, rfl, _, _, rfl, rfl, _, rfl, ite2 (fun c2 => ?_) (fun c2 => nxt rfl)⟩
      refine ⟨_, rfl, .inl ⟨rfl, _, SqL.of eL⟩, _, rfl, _, _, rfl, rfl, L, _, _, rfl, rfl, eL, by rw [List.length_map]; exact small1000 (by omega), Same.app hL sn, ns ++ [bor67 e p (j + (i : Int)) - 1], _, _, by rw [upd_same, List.map_append]; rfl, by rw [List.length_append]; show ns.length + 1 ≤ _; omega, fun n hn => ?_, fun k _ _ _ => by rw [List.length_append]; show 0 < ns.length + 1; omega, rfl⟩
      rcases List.mem_append.mp hn with h | h
      · exact hb n h
      · rw [List.mem_singleton.mp h]; omega
    · exact iteF (nxt rfl)
  · rintro σ Hn ⟨sn, ns, v6, v7, eL, ln, hb, hne, rfl⟩
    obtain ⟨m, m1, m2⟩ := mult67 (e := e) (j := j) (by omega) j0
    have l0 := hne _ m1 (by omega) (lap67_mul (by omega))
    exact ⟨_, rfl, L, ns, rfl, SqL.of eL, l0, fun x hx _ => q x Hn sn (hb x hx).1 (hb x hx).2⟩
theorem has_key67 (D : DefAt K mg "_law_key" s__law_key) (B : Blt0 mg) (h__law_border : Has P w K mg base 1 "_law_border" ["_law_share_here", "_law_turn_here"] (spBorder67 K)) (h__law_laps : Has P w K mg base 2 "_law_laps" ["_law_share_here", "_law_turn_here"] (spLaps67 K)) (h__law_group : Has P w K mg base 3 "_law_group" ["_law_share_here", "_law_turn_here"] (spGroup67 K)) : Has P w K mg base 4 "_law_key" ["_law_share_here", "_law_k", "_law_word", "_law_turn_here", "_law_moment_here", "_law_late"] (spKey67 K) := by
  refine D.has (fun _ _ _ _ _ _ us hl => match us, hl with | [_, _, _, _, _, _], _ => rfl) fun f fd F => F.ok sc__law_key (fun vs H Q E h => ?_) (fun cdv A outer s H vs Q E hr h => ?_)
  · obtain ⟨v, k, x, e, p, j, t, l, rfl, _⟩ := h; rfl
  obtain ⟨v, k, x, e, p, j, t, l, rfl, hv, g, j0, j1, t0, t1, l0, l1, q⟩ := h
  refine ⟨_, (pss_cons (ps_asg (pv 0) (pg_tup rfl (pgs_cons (pg_name (i := 6) sc__law_key.nd rfl (.inl rfl)) (pgs_cons (pg_name (i := 7) sc__law_key.nd rfl (.inl rfl)) pgs_nil))))
      (pss_cons (ps_if (pt_cmpR op_eq (pv 2) pe_str (nomark _)) (pss_one (ps_ret (pe_tup (pa_cons (pe_op op_add (pe_op op_fdiv (pe_op op_mul (pe_op op_mul (pe_un un_neg (pe_op op_sub (pe_op op_add (pv 4) pe_int) (pv 5))) (pv 6)) pe_int) (pv 7)) (pe_op op_mul (pe_op op_sub (pv 3) pe_int) pe_int)) (pa_cons (pv 1) pa_nil))))) pss_nil)
      (pss_cons (ps_set (i := 8) sc__law_key.nd rfl (.inl rfl) (pe_op op_add (pe_h h__law_border (hr.mono (by decide)) (pa_cons (pv 0) (pa_cons (pv 3) pa_nil))) (pv 5)))
      (pss_cons (ps_if (pt_cmpR op_eq (pv 2) pe_str (nomark _)) (pss_one (ps_ret (pe_tup (pa_cons (pv 8) (pa_cons (pv 1) pa_nil))))) pss_nil)
      (pss_cons (ps_if (PW.pt (pw_or (pt_cmpR op_eq (pv 2) pe_str (nomark _)) (pw_or1 (pt_not (pt_val (pe_h h__law_laps (hr.mono (by decide)) (pa_cons (pv 0) (pa_cons (pv 3) pa_nil)))))))) (pss_one (ps_ret (pe_tup (pa_cons (pv 8) (pa_cons (pe_callTy call_int1 (by rfl) B.zint (by decide +kernel) (pa_cons (pe_not (pe_h h__law_laps (hr.mono (by decide)) (pa_cons (pv 0) (pa_cons (pv 3) pa_nil)))) pa_nil)) (pa_cons pe_int (pa_cons (pv 1) pa_nil))))))) pss_nil)
      (pss_cons (ps_set (i := 9) sc__law_key.nd rfl (.inl rfl) (pe_h h__law_group (hr.mono (by decide)) (pa_cons (pv 0) (pa_cons (pv 3) pa_nil))))
      (pss_one (ps_ret (pe_tup (pa_cons (pv 8) (pa_cons pe_int (pa_cons (pe_ifExp (pt_cmpR op_gt (pv 9) pe_int (nomark _)) (pe_un un_neg (pe_op op_add (pv 9) (pv 5))) pe_int) (pa_cons (pv 1) pa_nil))))))))))))), ?_⟩
  have ⟨g1, g2, g3, g4⟩ := g
  obtain ⟨a, xs, rfl, hT, hX⟩ := hv.tuple
  obtain ⟨x1, x2, rfl, h1, h2⟩ := hX.two
  have hT' := hT
  rw [h1.int_eq, h2.int_eq] at hT'
  refine ⟨_, rfl, a, _, rfl, hT', rfl, _, _, rfl, _, _, rfl, rfl, ?_⟩
  dsimp only [L2.start, List.map, List.set]
  have fin : ∀ {Hx : Hp} (ks : List Int), Same H Hx → ∀ a, Hx a = none → Q (.ref a) (upd Hx a (.tup ((ks ++ [(k : Int)]).map V.int))) := fun ks sx a ha => q ks a _ (sx.trans (same_new ha)) (SqT.of upd_same)
  have bb := bor67_bd g (show 0 ≤ j by omega) (show j ≤ 10 ^ 12 by omega)
  refine ⟨_, rfl, rfl, _, rfl, ite2 (fun c => ?_) (fun c => ?_)⟩
  · refine ⟨_, rfl, _, _, rfl, rfl, _, rfl, _, _, rfl, rfl, _, rfl, _, rfl, _, _, rfl, rfl, .inr ⟨by omega, by omega⟩, _, _, rfl, rfl, .inr ⟨by decide, by decide⟩, _, rfl, _, _, rfl, rfl, ⟨by omega, by omega⟩, _, rfl, _, _, rfl, rfl, _, _, rfl, rfl, .inr ⟨by decide, by decide⟩, _, _, rfl, rfl, _, rfl, by show 2 ≤ sizeLine; decide, fun r hr9 => ?_⟩
    exact fin [-(t + 1 - l) * (e : Int) * 720720 / (p : Int) + (j - 1) * 720720] (Same.refl _) r hr9
  refine ⟨_, rfl, _, rfl, .ref a, e, p, j, rfl, hv, g, by omega, by omega, _, rfl, _, _, rfl, rfl, ?_⟩
  dsimp only [List.set]
  refine ⟨_, rfl, rfl, _, rfl, ite2 (fun c => ?_) (fun c => ?_)⟩
  · refine ⟨_, rfl, _, rfl, by show 2 ≤ sizeLine; decide, fun r hr9 => ?_⟩
    exact fin [bor67 e p j + l] (Same.refl _) r hr9
  refine ⟨_, rfl, rfl, _, rfl, ?_⟩
  refine or67 ?_ (fun e0 g9 => ?_)
  · refine iteT ⟨_, rfl, _, rfl, _, rfl, .ref a, e, p, j, rfl, hv, g, by omega, by omega, _, rfl, .inr ⟨_, rfl, _, rfl, by show 4 ≤ sizeLine; decide, fun r hr9 => ?_⟩⟩
    exact fin [bor67 e p j + l, if (!lap67 e p j) = true then 1 else 0, 0] (Same.refl _) r hr9
  refine ⟨_, rfl, _, rfl, .ref a, e, p, j, rfl, hv, g, by omega, by omega, _, rfl, ?_⟩
  cases el : lap67 e p j with
  | false => exact g9
  | true =>
    refine iteF ?_
    refine ⟨_, rfl, _, rfl, .ref a, e, p, j, rfl, hv, g, j0, by omega, fun gr Hx sx gr0 gr1 => ?_⟩
    dsimp only [List.set]
    refine ⟨_, rfl, _, rfl, _, _, rfl, rfl, _, rfl, ite2 (fun c => ?_) (fun c => ?_)⟩
    · refine ⟨_, rfl, _, rfl, _, _, rfl, rfl, _, rfl, _, rfl, by show 4 ≤ sizeLine; decide, fun r hr9 => ?_⟩
      exact fin [bor67 e p j + l, 0, -(gr + l)] sx r hr9
    · refine ⟨_, rfl, by show 4 ≤ sizeLine; decide, fun r hr9 => ?_⟩
      exact fin [bor67 e p j + l, 0, 0] sx r hr9
end
end Ts
namespace Ts
open PySem PySem.Spec PyProof.Rows L2 L2H LamX
section
variable {P : Program} {w : World} {K : PySem.W.Frag} {mg : Str → Option Value} {base : Heap}
theorem has_more67 (D : DefAt K mg "_law_more" s__law_more) (B : Blt0 mg) : Has P w K mg base 1 "_law_more" ["_law_had", "_law_lot_here"] (spPlus67 K) := by
  refine D.has (fun _ _ _ _ _ _ us hl => match us, hl with | [_, _], _ => rfl) fun f fd F => F.ok sc__law_more (fun vs H Q E h => ?_) (fun cdv A outer s H vs Q E hr h => ?_)
  · obtain ⟨a, g, r, s, rfl, _⟩ := h; rfl
  obtain ⟨a, g, r, s', rfl, hA, hG, l6, q⟩ := h
  refine ⟨_, (pss_one (ps_ret (pe_callTy call_tuple_of (by rfl) B.ztuple (by decide +kernel) (pa_cons (pe_lc (own := [("_law_k", 2)]) rfl sc__law_more.nd (pi_range1 (by rfl) B.zrange (pa_cons (pe_callB call_len_seq (by rfl) B.zlen (by decide +kernel) (pa_cons (pv 0) pa_nil)) pa_nil)) (blkOk_by (N := ["_law_had", "_law_lot_here", "_law_k"]) (sc := defScope s__law_more) (own := [("_law_k", 2)]) (by decide +kernel)) (fun _ _ _ _ _ => (pg_name (i := 2) sc__law_more.nd rfl (.inl rfl) (.inr rfl))) (fun _ _ _ _ _ => pts_nil) (fun _ _ _ _ _ => (pe_op op_add (pe_ix (ixAny (K := K) rfl) (pv 0) (pv 2) (fun _ _ => rfl)) (pe_callTy call_int1 (by rfl) B.zint (by decide +kernel) (pa_cons (pe_cmpR (inS (K := K) rfl) (pv 2) (pv 1) (by rfl)) pa_nil))))) pa_nil)))), ?_⟩
  have lr : (r.map V.int).length = r.length := List.length_map _
  have seqs : ∀ {Hx : Hp} {c : Addr} {zs : List V}, Same H Hx → (SqL K H c zs ∨ SqT K H c zs) → (SqL K Hx c zs ∨ SqT K Hx c zs) := fun sx h => h.imp (fun z => sx.seq z) (fun z => sameT sx z)
  refine ⟨_, rfl, a, _, rfl, hA, ?_⟩
  rw [lr]
  refine ⟨_, rfl, by omega, by omega, fun pl hpl => ?_⟩
  refine lc_range (lo := 0) (n := ((r.length : Nat) : Int).toNat) (fun i Hm => Same H Hm ∧ Hm pl = some (.lst (((plusR r s').take i).map V.int))) ⟨same_new hpl, by rw [List.take_zero]; exact upd_same⟩ ?_ ?_
  · rintro i H2 hi ⟨s2, e2⟩
    have ec : (0 : Int) + (i : Int) = (i : Int) := by omega
    rw [ec]
    have hi2 : i < r.length := by omega
    obtain ⟨m, hm⟩ : ∃ m, r[i]? = some m := ⟨_, List.getElem?_eq_getElem hi2⟩
    refine ⟨rfl, yesIf ⟨_, rfl, _, rfl, rIx_of67 (v := .int m) (seqs s2 hA) (by rw [List.getElem?_map, hm]; rfl) ?_⟩⟩
    refine ⟨_, rfl, _, rfl, g, _, rfl, seqs s2 hG, rfl, List.all_eq_true.mpr fun v hv => (by obtain ⟨t', _, rfl⟩ := List.mem_map.mp hv; rfl), .inr ⟨_, rfl, _, _, rfl, rfl, ?_⟩⟩
    have lp : i < (plusR r s').length := by unfold plusR; rw [List.length_map, List.length_range]; exact hi2
    have ep : (plusR r s')[i]? = some (m + (if ((i : Int) ∈ s') then 1 else 0)) := by
      unfold plusR
      rw [List.getElem?_map, List.getElem?_range hi2]
      show some (r.getD i 0 + _) = _
      rw [List.getD_eq_getElem?_getD, hm]; rfl
    refine ⟨_, e2, ?_, Same.app hpl s2, ?_⟩
    · rw [List.length_map, List.length_take]; exact small1000 (by omega)
    · rw [upd_same, List.take_add_one, ep, List.map_append]
      have h0 : ∀ x : Bool, (if false = true then !x else x) = x := fun x => rfl
      have ev : (if (if false = true then !inV (.int (i : Int)) (s'.map V.int) else inV (.int (i : Int)) (s'.map V.int)) = true then (1 : Int) else 0) = if ((i : Int) ∈ s') then 1 else 0 := by
        rw [h0, inV_ints]
        by_cases c : (i : Int) ∈ s' <;> simp [c]
      show some (HO.lst (_ ++ [V.int (m + (if (if false = true then !inV (.int (i : Int)) (s'.map V.int) else inV (.int (i : Int)) (s'.map V.int)) = true then (1 : Int) else 0))])) = _
      rw [ev]; rfl
  · rintro H2 ⟨s2, e2⟩
    have lp : (plusR r s').length = r.length := by unfold plusR; rw [List.length_map, List.length_range]
    rw [List.take_of_length_le (by omega)] at e2
    refine ⟨pl, _, rfl, .inl ⟨SqL.of e2, fun T hT => ?_⟩⟩
    have hT0 : H T = none := by
      cases e : H T with
      | none => rfl
      | some o => rw [s2 _ _ e] at hT; cases hT
    exact q T _ hT0 (s2.trans (same_new hT)) upd_same
theorem has_play67 (D : DefAt K mg "_law_play" s__law_play) (B : Blt0 mg) (h__law_border : Has P w K mg base 1 "_law_border" ["_law_share_here", "_law_turn_here"] (spBorder67 K)) (h__law_key : Has P w K mg base 4 "_law_key" ["_law_share_here", "_law_k", "_law_word", "_law_turn_here", "_law_moment_here", "_law_late"] (spKey67 K)) (h__law_more : Has P w K mg base 1 "_law_more" ["_law_had", "_law_lot_here"] (spPlus67 K)) :
    Has P w K mg base 5 "_law_play" ["_law_many", "_law_works_here", "_law_word", "_law_lates_here", "_law_ticks_here"] (spPlay67 K) := by
  refine D.has (fun _ _ _ _ _ _ us hl => match us, hl with | [_, _, _, _, _], _ => rfl) fun f fd F => F.ok sc__law_play (fun vs H Q E h => ?_) (fun cdv A outer s H vs Q E hr h => ?_)
  · obtain ⟨n, b, c, x, xs, js, f, rfl, _⟩ := h; rfl
  obtain ⟨n, b, c, x, xs, js, ft, rfl, hS, hA, G, l0, l6, n6, hC, f7, q⟩ := h
  refine ⟨_, (pss_cons (ps_asg (pe_tup (pa_cons (pe_op op_rep (pe_lst (pa_cons pe_int pa_nil)) (pe_callB call_len_seq (by rfl) B.zlen (by decide +kernel) (pa_cons (pv 1) pa_nil))) (pa_cons (pe_lst pa_nil) pa_nil))) (pg_tup rfl (pgs_cons (pg_name (i := 5) sc__law_play.nd rfl (.inr rfl)) (pgs_cons (pg_name (i := 6) sc__law_play.nd rfl (.inl rfl)) pgs_nil))))
      (pss_cons (ps_for PassesOwn.never rfl (pi_range1 (by rfl) B.zrange (pa_cons (pe_op op_add (pv 4) pe_int) pa_nil)) (pg_name (i := 7) sc__law_play.nd rfl (.inl rfl)) (pss_cons (ps_set (i := 8) sc__law_play.nd rfl (.inl rfl) (pe_lst pa_nil))
      (pss_cons (ps_for PassesOwn.never rfl (pi_range1 (by rfl) B.zrange (pa_cons (pe_callB call_len_seq (by rfl) B.zlen (by decide +kernel) (pa_cons (pv 1) pa_nil)) pa_nil)) (pg_name (i := 9) sc__law_play.nd rfl (.inr rfl)) (pss_cons (ps_asg (pe_ix ix_list (pv 1) (pv 9) (fun _ _ => rfl)) (pg_tup rfl (pgs_cons (pg_name (i := 10) sc__law_play.nd rfl (.inr rfl)) (pgs_cons (pg_tup rfl (pgs_cons (pg_name (i := 11) sc__law_play.nd rfl (.inl rfl)) (pgs_cons (pg_name (i := 12) sc__law_play.nd rfl (.inl rfl)) pgs_nil))) pgs_nil))))
      (pss_cons (ps_set (i := 16) sc__law_play.nd rfl (.inl rfl) (pe_callB (cr_sum rfl) (by rfl) B.zsum (by decide +kernel) (pa_cons (pe_lc (own := [("_law_other_tag", 13), ("_law_first", 14), ("_law_by", 15)]) rfl sc__law_play.nd (pi_tup (pv 3)) (blkOk_by (N := ["_law_many", "_law_works_here", "_law_word", "_law_lates_here", "_law_ticks_here", "_law_had", "_law_found", "_law_t", "_law_due", "_law_k", "_law_tag", "_law_e", "_law_p", "_law_other_tag", "_law_first", "_law_by", "_law_late", "_law_each", "_law_lot_here"]) (sc := defScope s__law_play) (own := [("_law_other_tag", 13), ("_law_first", 14), ("_law_by", 15)]) (by decide +kernel)) (fun _ _ _ _ _ => (pg_tupK (K := K) (n := 3) rfl rfl (pgs_cons (pg_name (i := 13) sc__law_play.nd rfl (.inl rfl) (.inr rfl)) (pgs_cons (pg_name (i := 14) sc__law_play.nd rfl (.inl rfl) (.inr rfl)) (pgs_cons (pg_name (i := 15) sc__law_play.nd rfl (.inl rfl) (.inr rfl)) pgs_nil))))) (fun _ _ _ _ _ => (pts_one (PW.pt (pw_and (pt_cmpR op_eq (pv 13) (pv 10) (nomark _)) (pw_and1 (pt_cmpR op_le (pv 14) (pe_op op_add (pe_ix (ixL (K := K) rfl) (pv 5) (pv 9) (fun _ _ => rfl)) pe_int) (nomark _))))))) (fun _ _ _ _ _ => (pv 15))) pa_nil)))
      (pss_cons (ps_if (pt_cmpR op_le (pe_op op_add (pe_h h__law_border (hr.mono (by decide)) (pa_cons (pe_tup (pa_cons (pv 11) (pa_cons (pv 12) pa_nil))) (pa_cons (pe_op op_add (pe_ix ix_list (pv 5) (pv 9) (fun _ _ => rfl)) pe_int) pa_nil))) (pv 16)) (pv 7) (nomark _)) (pss_one (ps_ret (pe_tup (pa_cons (pe_callTy call_tuple_of (by rfl) B.ztuple (by decide +kernel) (pa_cons (pv 6) pa_nil)) (pa_cons (pe_tup (pa_cons (pv 7) (pa_cons (pv 10) (pa_cons (pe_op op_add (pe_ix ix_list (pv 5) (pv 9) (fun _ _ => rfl)) pe_int) pa_nil)))) pa_nil))))) pss_nil)
      (pss_one (ps_if (pt_cmpR op_le (pe_op op_add (pe_op op_fdiv (pe_op op_mul (pe_ix ix_list (pv 5) (pv 9) (fun _ _ => rfl)) (pv 12)) (pv 11)) (pv 16)) (pv 7) (nomark _)) (pss_one (ps_expr (pe_bm PySem.F.plainAttrs_list PySem.F.slot_list_append PySem.F.type_list_append mt_append (pv 8) (pa_cons (pe_h h__law_key (hr.mono (by decide)) (pa_cons (pe_tup (pa_cons (pv 11) (pa_cons (pv 12) pa_nil))) (pa_cons (pv 9) (pa_cons (pv 2) (pa_cons (pe_op op_add (pe_ix ix_list (pv 5) (pv 9) (fun _ _ => rfl)) pe_int) (pa_cons (pv 7) (pa_cons (pv 16) pa_nil))))))) pa_nil)))) pss_nil))))))
      (pss_one (ps_if (pt_cmpR op_lt (pv 7) (pv 4) (nomark _)) (pss_cons (ps_set (i := 18) sc__law_play.nd rfl (.inl rfl) (pe_callB cr_sorted (by rfl) B.zsorted (by decide +kernel) (pa_cons (pe_lc (own := [("_law_each", 17)]) rfl sc__law_play.nd (pi_list (pe_slice sl_list (pe_callB (cr_sortE (hu2 (hu64 hr))) (by rfl) B.zsorted (by decide +kernel) (pa_cons (pv 8) pa_nil)) po_none (po_some (pv 0)))) (blkOk_by (N := ["_law_many", "_law_works_here", "_law_word", "_law_lates_here", "_law_ticks_here", "_law_had", "_law_found", "_law_t", "_law_due", "_law_k", "_law_tag", "_law_e", "_law_p", "_law_other_tag", "_law_first", "_law_by", "_law_late", "_law_each", "_law_lot_here"]) (sc := defScope s__law_play) (own := [("_law_each", 17)]) (by decide +kernel)) (fun _ _ _ _ _ => (pg_name (i := 17) sc__law_play.nd rfl (.inl rfl) (.inr rfl))) (fun _ _ _ _ _ => pts_nil) (fun _ _ _ _ _ => (pe_ix (ixT (K := K) rfl) (pv 17) (pe_un un_neg pe_int) (fun _ _ => rfl)))) pa_nil)))
      (pss_cons (ps_set (i := 5) sc__law_play.nd rfl (.inr rfl) (pe_callTy call_list_of (by rfl) B.zlist (by decide +kernel) (pa_cons (pe_h h__law_more (hr.mono (by decide)) (pa_cons (pv 5) (pa_cons (pv 18) pa_nil))) pa_nil)))
      (pss_one (ps_expr (pe_bm PySem.F.plainAttrs_list PySem.F.slot_list_append PySem.F.type_list_append mt_append (pv 6) (pa_cons (pe_callTy call_tuple_of (by rfl) B.ztuple (by decide +kernel) (pa_cons (pv 18) pa_nil)) pa_nil)))))) pss_nil)))))
      (pss_one (ps_ret (pe_tup (pa_cons (pe_callTy call_tuple_of (by rfl) B.ztuple (by decide +kernel) (pa_cons (pv 6) pa_nil)) (pa_cons pe_non pa_nil))))))), ?_⟩
  have lx : xs.length = js.length := by rw [hA.length, List.length_map]
  have li : (xs.length * (1 : Int).toNat) = xs.length := by simp
  refine ⟨by show 1 ≤ sizeLine; decide, fun z0 hz0 => ?_⟩
  have s0 := same_new (o := .lst [V.int 0]) hz0
  refine ⟨_, rfl, b, xs, rfl, .inl (s0.seq hS), z0, (xs.length : Int), [.int 0], rfl, rfl, upd_same, by omega, by omega, by show 1 * ((xs.length : Nat) : Int).toNat ≤ sizeLine; rw [Int.toNat_natCast, Nat.one_mul]; exact Nat.le_of_lt (small1000 (by omega)), fun M hM => ?_⟩
  have s1 := same_new (o := .lst (List.replicate ((xs.length : Nat) : Int).toNat [V.int 0]).flatten) hM
  refine ⟨by show 0 ≤ sizeLine; decide, fun L hL => ?_⟩
  have s2 := same_new (o := .lst ([] : List V)) hL
  refine ⟨by show 2 ≤ sizeLine; decide, fun tp htp => ⟨tp, _, rfl, SqT.of upd_same, rfl, _, _, rfl, _, _, rfl, rfl, ?_⟩⟩
  have s3 := same_new (o := .tup [V.ref M, .ref L]) htp
  have s03 := s0.trans (s1.trans (s2.trans s3))
  have hL0 : H L = none := by
    cases e : H L with
    | none => rfl
    | some o => rw [(s0.trans s1) _ _ e] at hL; cases hL
  have eM := (s2.trans s3) _ _ (show _ = some (HO.lst (List.replicate ((xs.length : Nat) : Int).toNat [V.int 0]).flatten) from upd_same)
  have eL := s3 _ _ (show _ = some (HO.lst ([] : List V)) from upd_same)
  have nML : M ≠ L := fun z => by rw [← z, upd_same] at hL; cases hL
  replace eM := eM.trans (show some (HO.lst (List.replicate ((xs.length : Nat) : Int).toNat [V.int 0]).flatten) = some (HO.lst ((List.replicate js.length 0).map V.int)) from by rw [Int.toNat_natCast, List.flatten_replicate_singleton, lx, List.map_replicate])
  revert s03 eL eM
  generalize upd _ tp (.tup [V.ref M, .ref L]) = H1
  intro s03 eL eM
  clear s0 s1 s2 s3 hz0 hM hL htp
  dsimp only [L2.start, List.map, List.set]
  refine ⟨_, rfl, _, _, rfl, rfl, _, rfl, by omega, by omega, for_range (lo := 0) (n := ((ft : Int) + 1).toNat) (fun i σ Hn => Same H Hn ∧ ∃ (M : Addr) (had : List Int) (us : List V) (rows : List (List Int)) (v7 v8 v9 v10 v11 v12 v13 v14 v15 v16 v17 v18 : Option V), M ≠ L ∧ Hn M = some (.lst (had.map V.int)) ∧ had.length = js.length ∧ (∀ h ∈ had, 0 ≤ h ∧ h ≤ (i : Int)) ∧ Hn L = some (.lst us) ∧ DpAll K (hid L Hn) us (rows.map rowD) ∧ rows.length ≤ i ∧ rows.length ≤ ft ∧ (∀ r ∈ rows, r.length ≤ 6) ∧
      σ = [some (.int (n : Int)), some (.ref b), some (.str x), some (.ref c), some (.int (ft : Int)), some (.ref M), some (.ref L), v7, v8, v9, v10, v11, v12, v13, v14, v15, v16, v17, v18])
    ⟨s03, M, List.replicate js.length 0, [], [], _, _, _, _, _, _, _, _, _, _, _, _, nML, eM, List.length_replicate, (fun h hh => by rw [List.eq_of_mem_replicate hh]; exact ⟨Int.le_refl _, Int.le_refl _⟩), eL, .nil, Nat.le_refl _, Nat.zero_le _, (fun r hr => by cases hr), rfl⟩ ?_ ?_⟩
  · clear eM eL nML s03
    rintro i σ Hn hi ⟨sn, M, had, us, rows, v7, v8, v9, v10, v11, v12, v13, v14, v15, v16, v17, v18, nML, eM, lh, hb, eL, hd, lr, lr2, hr6, rfl⟩
    have z0 : (0 : Int) + (i : Int) = (i : Int) := by omega
    rw [z0]
    have hif : i ≤ ft := by omega
    dsimp only [List.set]
    refine ⟨by show 0 ≤ sizeLine; decide, fun D hD => ?_⟩
    have sD := same_new (o := .lst ([] : List V)) hD
    have nDL : D ≠ L := fun z => by rw [z, eL] at hD; cases hD
    have nDM : D ≠ M := fun z => by rw [z, eM] at hD; cases hD
    have hD0 : H D = none := by
      cases e : H D with
      | none => rfl
      | some o => rw [sn _ _ e] at hD; cases hD
    have e1 : (upd Hn D (.lst [])) D = some (.lst []) := upd_same
    have bD : But D Hn (upd Hn D (.lst [])) := But.of_same sD
    revert e1 bD
    generalize upd Hn D (.lst []) = H1
    intro e1 bD
    clear sD
    dsimp only [List.set]
    -- what stays while due ones are gathered
    have kp : ∀ {Hx : Hp}, But D Hn Hx → Same H (hid D Hx) := fun bx => (hid_new sn hD0).trans bx.hid
    refine ⟨_, rfl, b, xs, rfl, .inl (hid_sub.seq ((kp bD).seq hS)), _, rfl, by omega, by omega, for_range (lo := 0) (n := ((xs.length : Nat) : Int).toNat) (fun k σ Hx => But D Hn Hx ∧ ∃ (ds : List V) (keys : List (List Int)) (v9 v10 v11 v12 v13 v14 v15 v16 : Option V), Hx D = some (.lst ds) ∧ DpAll K (hid D Hx) ds (keys.map rowD) ∧ keys.length ≤ k ∧ (∀ r ∈ keys, ∃ (ks : List Int) (m : Nat), r = ks ++ [(m : Int)] ∧ m < js.length) ∧
        σ = [some (.int (n : Int)), some (.ref b), some (.str x), some (.ref c), some (.int (ft : Int)), some (.ref M), some (.ref L), some (.int (i : Int)), some (.ref D), v9, v10, v11, v12, v13, v14, v15, v16, v17, v18])
      ⟨bD, [], [], _, _, _, _, _, _, _, _, e1, .nil, Nat.le_refl _, (fun r hr => by cases hr), rfl⟩ ?_ ?_⟩
    · rintro k σ Hx hk ⟨bx, ds, keys, v9, v10, v11, v12, v13, v14, v15, v16, ed, hk9, lk, hkk, rfl⟩
      have zk : (0 : Int) + (k : Int) = (k : Int) := by omega
      rw [zk]
      dsimp only [List.set]
      have kl : k < js.length := by omega
      have kx := kp bx
      obtain ⟨xk, hxk⟩ : ∃ y, xs[k]? = some y := ⟨_, List.getElem?_eq_getElem (by omega)⟩
      obtain ⟨jb, ja, jq, hjb, rfl, hja, hjq⟩ := job_at (hA.mono kx) hxk
      have gp := G.part jb (List.mem_of_getElem? hjb)
      have hhk : had[k]? = some had[k] := List.getElem?_eq_getElem (by omega)
      have hbk := hb _ (List.getElem_mem (show k < had.length by omega))
      have eMx : Hx M = some (.lst (had.map V.int)) := bx _ _ nDM.symm eM
      have hvk : (had.map V.int)[k]? = some (.int had[k]) := by rw [List.getElem?_map, hhk]; rfl
      generalize had[k] = hk0 at *
      refine ⟨_, rfl, _, rfl, b, xs, (k : Int), .ref ja, rfl, rfl, hid_sub.seq (kx.seq hS), atI_nat hxk, ja, _, rfl, sameT hid_sub hja, rfl, _, _, rfl, _, _, rfl, jq, _, rfl, sameT hid_sub hjq, rfl, _, _, rfl, _, _, rfl, rfl, rfl, ?_⟩
      dsimp only [List.set]
      -- no lates
      refine ⟨_, rfl, c, rfl, ⟨_, sameT hid_sub (sameT kx hC)⟩, fun pl hpl => ?_⟩
      refine lc_tup (K := K) (a := c) (xs := []) (fun _ Hm => Hm = upd Hx pl (.lst [])) rfl (fun _ Hm _ z => by rw [z]; exact sameT (same_new hpl) (sameT hid_sub (sameT kx hC))) (fun i x Hm hx => by cases hx) ?_
      rintro Hm rfl
      have spl := same_new (o := .lst ([] : List V)) hpl
      have bm := bx.trans' spl
      have edm := spl _ _ ed
      have hkm := hk9.mono (hid_same (b := D) spl)
      have eMm := spl _ _ eMx
      have epl : (upd Hx pl (.lst [])) pl = some (.lst (([] : List Int).map V.int)) := upd_same
      revert spl bm edm hkm eMm epl
      generalize upd Hx pl (.lst []) = Hm
      intro spl bm edm hkm eMm epl
      refine ⟨pl, [], rfl, SqL.of epl, ?_⟩
      dsimp only [List.set]
      refine ⟨_, rfl, _, rfl, by show 2 ≤ sizeLine; decide, fun t1 h1 => ?_⟩
      have st1 := same_new (o := .tup [V.int (jb.2.1 : Int), .int (jb.2.2 : Int)]) h1
      have dt1 : Dp K (upd Hm t1 (.tup [V.int (jb.2.1 : Int), .int (jb.2.2 : Int)])) (.ref t1) (partD jb.2.1 jb.2.2) := .tup (SqT.of upd_same) (.cons (.int _) (.cons (.int _) .nil))
      have b2 := bm.trans' st1
      have ed2 := st1 _ _ edm
      have hk2 := hkm.mono (hid_same (b := D) st1)
      have eM2 := st1 _ _ eMm
      revert dt1 b2 ed2 hk2 eM2
      generalize upd Hm t1 (.tup [V.int (jb.2.1 : Int), .int (jb.2.2 : Int)]) = H2
      intro dt1 b2 ed2 hk2 eM2
      clear spl bm edm hkm eMm epl st1 h1 hpl ed hk9 eMx bx kx hja hjq
      refine ⟨_, rfl, _, rfl, M, _, (k : Int), .int hk0, rfl, rfl, SqL.of eM2, atI_nat hvk, _, _, rfl, rfl, .ref t1, _, _, hk0 + 1, rfl, dt1, gp, by omega, by omega, _, rfl, _, _, rfl, rfl, _, rfl, _, _, rfl, rfl, _, rfl, ite2 (fun c1 => ?_) (fun c1 => ?_)⟩
      · have s2 : Same Hn H2 := fun a9 o e => b2 _ _ (fun z => by rw [z, hD] at e; cases e) e
        refine ⟨_, rfl, L, us, rfl, .inl ⟨SqL.of (s2 _ _ eL), fun p hp => ?_⟩⟩
        have s4 := same_new (o := .tup us) hp
        refine ⟨_, rfl, _, rfl, _, rfl, _, rfl, M, _, (k : Int), .int hk0, rfl, rfl, SqL.of (s4 _ _ eM2), atI_nat hvk, _, _, rfl, rfl, by show 3 ≤ sizeLine; decide, fun t2 h2 => ?_⟩
        have s5 := same_new (o := .tup [V.int (i : Int), .str jb.1, .int (hk0 + 1)]) h2
        refine ⟨by show 2 ≤ sizeLine; decide, fun r hr9 => ?_⟩
        have s6 := same_new (o := .tup [V.ref p, .ref t2]) hr9
        exact q r p (.ref t2) us rows _ (sn.trans (s2.trans (s4.trans (s5.trans s6)))) (SqT.of upd_same) (SqT.of (s6 _ _ (s5 _ _ upd_same))) ((hd.mono hid_sub).mono (s2.trans (s4.trans (s5.trans s6)))) lr2 hr6
      have hm16 : 0 ≤ hk0 * (jb.2.2 : Int) := Int.mul_nonneg hbk.1 (by omega)
      refine ⟨_, rfl, _, rfl, M, _, (k : Int), .int hk0, rfl, rfl, SqL.of eM2, atI_nat hvk, _, rfl, _, _, rfl, rfl, .inr ⟨by have := gp.2.2.1; omega, by have := gp.2.2.1; omega⟩, _, rfl, _, _, rfl, rfl, ⟨by have := gp.1; omega, by have := gp.2.1; have := gp.2.2.1; omega⟩, _, rfl, _, _, rfl, rfl, _, rfl, _, _, rfl, rfl, _, rfl, ite2 (fun c2 => ?_) (fun c2 => ?_)⟩
      · refine ⟨_, rfl, .inl ⟨rfl, _, SqL.of ed2⟩, ?_⟩
        refine ⟨_, rfl, _, rfl, by show 2 ≤ sizeLine; decide, fun t2 h2 => ?_⟩
        have s3 := same_new (o := .tup [V.int (jb.2.1 : Int), .int (jb.2.2 : Int)]) h2
        refine ⟨_, rfl, _, rfl, _, rfl, _, rfl, M, _, (k : Int), .int hk0, rfl, rfl, SqL.of (s3 _ _ eM2), atI_nat hvk, _, _, rfl, rfl, _, rfl, _, rfl, .ref t2, k, x, jb.2.1, jb.2.2, hk0 + 1, (i : Int), 0, rfl, .tup (SqT.of upd_same) (.cons (.int _) (.cons (.int _) .nil)), gp, by omega, by omega, by omega, by omega, by decide, by decide, fun ks a9 H9 s9 S9 => ?_⟩
        have s29 := s3.trans s9
        have ed9 := s29 _ _ ed2
        have b9 := b2.trans' s29
        refine ⟨D, ds, .ref a9, rfl, rfl, ed9, by rw [hk2.length, List.length_map]; exact small1000 (by omega), ?_, ds ++ [.ref a9], keys ++ [ks ++ [(k : Int)]], _, _, _, _, _, _, _, _, upd_same, ?_, by rw [List.length_append]; show keys.length + 1 ≤ k + 1; omega, fun r hr => ?_, rfl⟩
        · exact fun a o nn h => by rw [upd_ne nn]; exact b9 a o nn h
        · rw [List.map_append]
          exact ((hk2.mono (hid_same (b := D) s29)).mono hid_put).append (.cons (.tup (sameT hid_put (seqT_hide ed9 S9)) (.ints _)) .nil)
        · rcases List.mem_append.mp hr with h | h
          · exact hkk r h
          · rw [List.mem_singleton.mp h]; exact ⟨ks, k, rfl, kl⟩
      · exact ⟨b2, ds, keys, _, _, _, _, _, _, _, _, ed2, hk2, by omega, hkk, rfl⟩
    · rintro σ Hx ⟨bx, ds, keys, v9, v10, v11, v12, v13, v14, v15, v16, ed, hk9, lk, hkk, rfl⟩
      have sx : Same Hn Hx := fun a9 o e => bx _ _ (fun z => by rw [z, hD] at e; cases e) e
      have zk9 : ((xs.length : Nat) : Int).toNat = js.length := by omega
      rw [zk9] at lk
      dsimp only
      have eMx := sx _ _ eM
      have eLx := sx _ _ eL
      have hdx := hd.mono (hid_same (b := L) sx)
      refine ⟨_, rfl, _, rfl, _, _, rfl, rfl, _, rfl, ite2 (fun c1 => ?_) (fun c1 => ?_)⟩
      · have c2 : i < ft := by have := of_decide_eq_true c1; omega
        refine ⟨_, rfl, D, ds, keys, rfl, SqL.of ed, hk9.mono hid_sub, fun r hr => ?_, fun ys2 rows2 p5 D5 srt stb hp5 => ?_⟩
        · obtain ⟨ks, m, rfl, _⟩ := hkk r (List.mem_of_mem_tail hr)
          rw [List.length_append]; show 1 ≤ _ + 1; omega
        have hn0 : Hn p5 = none := by
          cases e : Hn p5 with
          | none => rfl
          | some o => rw [sx _ _ e] at hp5; cases hp5
        have s5 := same_new (o := .lst ys2) hp5
        have e5 : (upd Hx p5 (.lst ys2)) p5 = some (.lst ys2) := upd_same
        have D5' := D5.mono s5
        revert s5 e5 D5'
        generalize upd Hx p5 (.lst ys2) = H5
        intro s5 e5 D5'
        refine ⟨_, rfl, (n : Int), rfl, p5, ys2, rfl, SqL.of e5, fun p6 hp6 => ?_⟩
        rw [cut_top]
        have s6 := same_new (o := .lst (ys2.take n)) hp6
        have e6 : (upd H5 p6 (.lst (ys2.take n))) p6 = some (.lst (ys2.take n)) := upd_same
        have D6 := D5'.mono s6
        revert s6 e6 D6
        generalize upd H5 p6 (.lst (ys2.take n)) = H6
        intro s6 e6 D6
        have sx6 := sx.trans (s5.trans s6)
        clear D5 D5' e5 s5 s6 hp5 hp6 ed hk9 bx sx eMx eLx hdx
        refine ⟨p6, rfl, ⟨_, SqL.of e6⟩, fun pl hpl => ?_⟩
        refine lc_list (K := K) (a := p6) (xs := ys2.take n) (fun j9 Hm => Same H6 Hm ∧ ∃ ms : List Int, Hm pl = some (.lst (ms.map V.int)) ∧ ms.length = j9 ∧ ∀ m ∈ ms, 0 ≤ m ∧ m < (js.length : Int)) ⟨same_new hpl, [], upd_same, rfl, fun m hm => by cases hm⟩ (fun _ _ _ z => SqL.of (z.1 _ _ e6)) ?_ ?_
        · rintro j9 y Hm hj9 ⟨sm, ms, em, lm, hms⟩
          have ln9 : j9 < n := by have := (List.getElem?_eq_some_iff.mp hj9).1; rw [List.length_take] at this; omega
          obtain ⟨r9, a9, hr9, rfl, ha9⟩ := row_at D6 (show ys2[j9]? = some y by rw [← hj9, List.getElem?_take, if_pos ln9])
          obtain ⟨ks, m9, rfl, hm9⟩ := hkk r9 (stb.perm.mem_iff.mp (List.mem_of_getElem? hr9))
          have ha9' := sameT sm ha9
          rw [List.map_append] at ha9'
          refine ⟨rfl, yesIf ⟨_, rfl, _, rfl, a9, _, _, .int (m9 : Int), rfl, rfl, ha9', atI_last (ks.map V.int) (.int (m9 : Int)), ms.map V.int, em, by rw [List.length_map]; exact small1000 (by omega), Same.app hpl sm, ms ++ [(m9 : Int)], by rw [upd_same, List.map_append]; rfl, by rw [List.length_append, lm]; rfl, fun m hm => ?_⟩⟩
          rcases List.mem_append.mp hm with h | h
          · exact hms m h
          · rw [List.mem_singleton.mp h]; omega
        rintro Hm ⟨sm, ms, em, lm, hms⟩
        have lm6 : ms.length ≤ 6 := by rw [lm, List.length_take]; omega
        refine ⟨pl, ms, rfl, SqL.of em, by omega, fun ns2 p7 pm _ hp7 => ?_⟩
        have s7 := same_new (o := .lst (ns2.map V.int)) hp7
        have e7 : (upd Hm p7 (.lst (ns2.map V.int))) p7 = some (.lst (ns2.map V.int)) := upd_same
        revert s7 e7
        generalize upd Hm p7 (.lst (ns2.map V.int)) = H7
        intro s7 e7
        have s07 := sx6.trans (sm.trans s7)
        clear e6 D6 sx6 hpl sm em s7 hp7
        have eM7 := s07 _ _ eM
        have eL7 := s07 _ _ eL
        have hd7 := hd.mono (hid_same (b := L) s07)
        dsimp only [List.set]
        refine ⟨_, rfl, _, rfl, M, p7, had, ns2, rfl, .inl (SqL.of eM7), .inl (SqL.of e7), by omega, fun p8 H8 hp8 s8 e8 => ?_⟩
        refine ⟨p8, _, rfl, .inr (SqT.of e8), fun M2 hM2 => ?_⟩
        have s8M := same_new (o := .lst ((plusR had ns2).map V.int)) hM2
        have eM9 : (upd H8 M2 (.lst ((plusR had ns2).map V.int))) M2 = some (.lst ((plusR had ns2).map V.int)) := upd_same
        have nM2 : M2 ≠ L := fun z => by rw [z, s8 _ _ eL7] at hM2; cases hM2
        have eL9 := s8M _ _ (s8 _ _ eL7)
        have e79 := s8M _ _ (s8 _ _ e7)
        have s79 := s8.trans s8M
        revert eM9 eL9 e79 s79
        generalize upd H8 M2 (.lst ((plusR had ns2).map V.int)) = H9
        intro eM9 eL9 e79 s79
        refine ⟨_, rfl, .inl ⟨rfl, _, SqL.of eL9⟩, _, rfl, p7, _, rfl, .inl ⟨SqL.of e79, fun t9 ht9 => ?_⟩⟩
        have s10 := same_new (o := .tup (ns2.map V.int)) ht9
        have e10 : (upd H9 t9 (.tup (ns2.map V.int))) t9 = some (.tup (ns2.map V.int)) := upd_same
        have eM10 := s10 _ _ eM9
        have eL10 := s10 _ _ eL9
        have s710 := s79.trans s10
        revert e10 eM10 eL10 s710
        generalize upd H9 t9 (.tup (ns2.map V.int)) = H10
        intro e10 eM10 eL10 s710
        have hd10 := hd7.mono (hid_same (b := L) s710)
        have lu : us.length = rows.length := by rw [hd.length, List.length_map]
        refine ⟨L, us, .ref t9, rfl, rfl, eL10, small1000 (by omega), Same.app hL0 (sn.trans (s07.trans s710)), M2, plusR had ns2, us ++ [.ref t9], rows ++ [ns2], _, _, _, _, _, _, _, _, _, _, _, _, nM2, by rw [upd_ne nM2]; exact eM10, by unfold plusR; rw [List.length_map, List.length_range]; exact lh, fun h hh => ?_, upd_same, ?_, by rw [List.length_append]; show rows.length + 1 ≤ i + 1; omega, by rw [List.length_append]; show rows.length + 1 ≤ ft; omega, fun r hr => ?_, rfl⟩
        · unfold plusR at hh
          obtain ⟨z, hz, rfl⟩ := List.mem_map.mp hh
          have zl := List.mem_range.mp hz
          have hz2 := hb (had.getD z 0) (by rw [List.getD_eq_getElem?_getD, List.getElem?_eq_getElem zl]; exact List.getElem_mem _)
          split <;> omega
        · rw [List.map_append]
          exact (hd10.mono hid_put).append (.cons (.tup (sameT hid_put (seqT_hide eL10 (SqT.of e10))) (.ints _)) .nil)
        · rcases List.mem_append.mp hr with h | h
          · exact hr6 r h
          · rw [List.mem_singleton.mp h, pm.length_eq]; exact lm6
      · refine ⟨sn.trans sx, M, had, us, rows, _, _, _, _, _, _, _, _, _, _, _, _, nML, eMx, lh, (fun h hh => by have := hb h hh; omega), eLx, hdx, by omega, lr2, hr6, rfl⟩
  · rintro σ Hn ⟨sn, M, had, us, rows, v7, v8, v9, v10, v11, v12, v13, v14, v15, v16, v17, v18, nML, eM, lh, hb, eL, hd, lr, lr2, hr6, rfl⟩
    refine ⟨_, rfl, L, us, rfl, .inl ⟨SqL.of eL, fun p hp => ?_⟩⟩
    have s4 := same_new (o := .tup us) hp
    refine ⟨by show 2 ≤ sizeLine; decide, fun r hr9 => ?_⟩
    have s5 := same_new (o := .tup [V.ref p, .non]) hr9
    exact q r p .non us rows _ (sn.trans (s4.trans s5)) (SqT.of upd_same) (SqT.of (s5 _ _ upd_same)) ((hd.mono hid_sub).mono (s4.trans s5)) lr2 hr6
end
end Ts
namespace Ts
open PySem PySem.Spec PyProof.Rows L2 L2H LamX
section
variable {P : Program} {w : World} {K : PySem.W.Frag} {mg : Str → Option Value} {base : Heap}
theorem has_any_row70 (D : DefAt K mg "_law_any_row" s__law_any_row) (B : Blt0 mg) (h__law_of : Has P w K mg base 2 "_law_of" ["_law_bag_here", "_law_things"] spOne) (h__law_kept : Has P w K mg base 1 "_law_kept" ["_law_shares_here", "_law_had", "_law_moment_here"] (spKept70 K)) (h__law_sets : Has P w K mg base 1 "_law_sets" ["_law_size", "_law_most"] (spSetsJ K)) (h__law_more : Has P w K mg base 1 "_law_more" ["_law_had", "_law_lot_here"] (spPlusJ K)) :
    Has P w K mg base 3 "_law_any_row" ["_law_bag_here", "_law_many", "_law_shares_here", "_law_counts_here"] (spAnyRow70 K) := by
  refine D.has (fun _ _ _ _ _ _ us hl => match us, hl with | [_, _, _, _], _ => rfl) fun f fd F => F.ok sc__law_any_row (fun vs H Q E h => ?_) (fun cdv A outer s H vs Q E hr h => ?_)
  · obtain ⟨b, a, c, m, xs, js, cs, rfl, _⟩ := h; rfl
  obtain ⟨b, a, c, m, xs, js, cs, rfl, hB, hS, hA, hC, gp, l0, l6, lc, hcs, q⟩ := h
  refine ⟨_, (pss_cons (ps_asg (pe_tup (pa_cons (pe_op (op_rep1 rfl) (pe_tup (pa_cons pe_int pa_nil)) (pe_callB call_len_seq (by rfl) B.zlen (by decide +kernel) (pa_cons (pv 2) pa_nil))) (pa_cons (pe_tup pa_nil) pa_nil))) (pg_tup rfl (pgs_cons (pg_name (i := 4) sc__law_any_row.nd rfl (.inr rfl)) (pgs_cons (pg_name (i := 5) sc__law_any_row.nd rfl (.inl rfl)) pgs_nil))))
      (pss_cons (ps_for PassesOwn.never rfl (pi_range1 (by rfl) B.zrange (pa_cons (pe_callB call_len_seq (by rfl) B.zlen (by decide +kernel) (pa_cons (pv 3) pa_nil)) pa_nil)) (pg_name (i := 6) sc__law_any_row.nd rfl (.inr rfl)) (C8.pss_cut (ps_setLc (i := 8) (own := [("_law_lot_here", 7)]) rfl sc__law_any_row.nd rfl rfl (sw_true rfl rfl rfl (by decide +kernel)) (pi_list (pe_h h__law_sets (hr.mono (by decide)) (pa_cons (pe_callB call_len_seq (by rfl) B.zlen (by decide +kernel) (pa_cons (pv 2) pa_nil)) (pa_cons (pe_ix ix_list (pv 3) (pv 6) (fun _ _ => rfl)) pa_nil)))) (blkOk_by (N := ["_law_bag_here", "_law_many", "_law_shares_here", "_law_counts_here", "_law_had", "_law_row", "_law_t", "_law_lot_here", "_law_sets_here", "_law_some"]) (sc := defScope s__law_any_row) (own := [("_law_lot_here", 7)]) (by decide +kernel)) (fun _ _ _ _ _ => (pg_name (i := 7) sc__law_any_row.nd rfl (.inl rfl) (.inr rfl))) (fun _ _ _ _ _ => pts_nil) (fun _ _ _ _ _ => (pv 7)))
      (C8.pss_cut (ps_setLc (i := 9) (own := [("_law_lot_here", 7)]) rfl sc__law_any_row.nd rfl rfl (sw_true rfl rfl rfl (by decide +kernel)) (pi_list (pv 8)) (blkOk_by (N := ["_law_bag_here", "_law_many", "_law_shares_here", "_law_counts_here", "_law_had", "_law_row", "_law_t", "_law_lot_here", "_law_sets_here", "_law_some"]) (sc := defScope s__law_any_row) (own := [("_law_lot_here", 7)]) (by decide +kernel)) (fun _ _ _ _ _ => (pg_name (i := 7) sc__law_any_row.nd rfl (.inl rfl) (.inr rfl))) (fun _ _ _ _ _ => (pts_one (pt_val (pe_h h__law_kept (hr.mono (by decide)) (pa_cons (pv 2) (pa_cons (pe_h h__law_more (hr.mono (by decide)) (pa_cons (pv 4) (pa_cons (pv 7) pa_nil))) (pa_cons (pe_op op_add (pv 6) pe_int) pa_nil))))))) (fun _ _ _ _ _ => (pv 7)))
      (pss_one (ps_if (PW.pt (pw_and (pt_cmpR op_eq (pe_callB call_len_seq (by rfl) B.zlen (by decide +kernel) (pa_cons (pv 5) pa_nil)) (pv 6) (nomark _)) (pw_and1 (pt_cmpR (op_neD (hu64 hr)) (pv 9) (pe_lst pa_nil) (nomark _))))) (pss_cons (ps_set (i := 5) sc__law_any_row.nd rfl (.inl rfl) (pe_op (op_catUK (K := K) rfl) (pv 5) (pe_tup (pa_cons (pe_h h__law_of (hr.mono (by decide)) (pa_cons (pv 0) (pa_cons (pv 9) pa_nil))) pa_nil))))
      (pss_one (ps_set (i := 4) sc__law_any_row.nd rfl (.inr rfl) (pe_h h__law_more (hr.mono (by decide)) (pa_cons (pv 4) (pa_cons (pe_ix ix_tup (pv 5) (pe_un un_neg pe_int) (fun _ _ => rfl)) pa_nil)))))) pss_nil)))))
      (pss_one (ps_ret (pv 5))))), ?_⟩
  have lx : xs.length = js.length := by rw [hA.length]; unfold sharesD; rw [List.length_map]
  have lcs : (natV cs).length = cs.length := List.length_map _
  obtain ⟨xb, yb, zb, eb⟩ := id hB.bas
  refine ⟨by show 1 ≤ sizeLine; decide, fun z0 hz0 => ?_⟩
  have s0 := same_new (o := .tup [V.int 0]) hz0
  have ez : (upd H z0 (.tup [V.int 0])) z0 = some (.tup [V.int 0]) := upd_same
  revert s0 ez
  generalize upd H z0 (.tup [V.int 0]) = H1
  intro s0 ez
  refine ⟨_, rfl, a, xs, rfl, .inl (s0.seq (hid_sub.seq hS)), z0, xs.length, .int 0, rfl, rfl, SqT.of ez, by omega, by omega, fun ph H2 s2 hp2 => ?_⟩
  refine ⟨by show 0 ≤ sizeLine; decide, fun pr hpr => ?_⟩
  have s3 := same_new (o := .tup ([] : List V)) hpr
  have er : (upd H2 pr (.tup [])) pr = some (.tup []) := upd_same
  revert s3 er
  generalize upd H2 pr (.tup []) = H3
  intro s3 er
  refine ⟨by show 2 ≤ sizeLine; decide, fun tp htp => ⟨tp, _, rfl, SqT.of upd_same, rfl, _, _, rfl, _, _, rfl, rfl, ?_⟩⟩
  have s4 := same_new (o := .tup [V.ref ph, .ref pr]) htp
  have s04 := s0.trans (s2.trans (s3.trans s4))
  have hph : SqT K (upd H3 tp (.tup [V.ref ph, .ref pr])) ph (List.replicate xs.length (.int 0)) := sameT (s3.trans s4) hp2
  have hpr4 := s4 _ _ er
  revert s04 hph hpr4
  generalize upd H3 tp (.tup [V.ref ph, .ref pr]) = H4
  intro s04 hph hpr4
  clear s0 ez s2 hp2 hpr s3 er htp s4 hz0
  have eb4 := s04 _ _ eb
  dsimp only [L2.start, List.map, List.set]
  refine ⟨_, rfl, c, natV cs, rfl, .inl (s04.seq (hid_sub.seq hC)), _, rfl, by omega, by omega, for_range (lo := 0) (n := (((natV cs).length : Nat) : Int).toNat) (fun i σ Hn => But b H Hn ∧ Bag Hn b ∧ ∃ (ph pr : Addr) (had : List Int) (us : List V) (rows : List (List Int)) (v6 v7 v8 v9 : Option V), SqT K (hid b Hn) ph (had.map V.int) ∧ had.length = js.length ∧ SqT K (hid b Hn) pr us ∧ DpAll K (hid b Hn) us (rows.map rowD) ∧ rows.length ≤ i ∧ (∀ r ∈ rows, r ∈ setsL js.length 6) ∧ (i = 0 → had = List.replicate js.length 0) ∧ (1 ≤ i → ∀ c, cs[0]? = some c → js.length ≤ c → 0 < rows.length) ∧ σ = [some (.ref b), some (.int m), some (.ref a), some (.ref c), some (.ref ph), some (.ref pr), v6, v7, v8, v9])
    ⟨But.of_same s04, hB.on s04, ph, pr, List.replicate js.length 0, [], [], _, _, _, _, ?_, List.length_replicate, seqT_hide eb4 (SqT.of hpr4), .nil, Nat.le_refl _, (fun r hr => by cases hr), fun _ => rfl, (fun z => absurd z (by decide)), rfl⟩ ?_ ?_⟩
  · rw [List.map_replicate, ← lx]
    exact seqT_hide eb4 hph
  · rintro i σ Hn hi ⟨bn, Bn, ph, pr, had, us, rows, v6, v7, v8, v9, hh, lh, hr', hd, lr, hin, hz0, hz1, rfl⟩
    have hi' : i < cs.length := by omega
    have z0 : (0 : Int) + (i : Int) = (i : Int) := by omega
    rw [z0]
    have hSn := hid_sub.seq (bn.hid.seq hS)
    have hAn := (hA.mono bn.hid).mono hid_sub
    have hCn := hid_sub.seq (bn.hid.seq hC)
    have hci : cs[i]? = some cs[i] := List.getElem?_eq_getElem hi'
    have c6 := hcs _ (List.getElem_mem hi')
    obtain ⟨xn, yn, zn, ebn⟩ := id Bn.bas
    dsimp only [List.set]
    -- the crews
    refine ⟨fun σ' H' => Same Hn H' ∧ ∃ (l : Addr) (ys : List V) (rows2 : List (List Int)) (v7 : Option V), H' l = some (.lst ys) ∧ DpAll K H' ys (rows2.map rowD) ∧ (∀ r ∈ rows2, r ∈ setsL js.length 6) ∧ (js.length ≤ cs[i] → fullR70 js.length ∈ rows2) ∧ ys.length ≤ 64 ∧ σ' = [some (.ref b), some (.int m), some (.ref a), some (.ref c), some (.ref ph), some (.ref pr), some (.int (i : Int)), v7, some (.ref l), v9], ?_, ?_⟩
    · refine ⟨_, rfl, a, xs, rfl, .inl hSn, _, rfl, _, rfl, c, natV cs, (i : Int), .int (cs[i] : Int), rfl, rfl, hCn, atI_nat (by rw [List.getElem?_map, hci]; rfl), xs.length, cs[i], rfl, by omega, by omega, fun l ys rows2 H5 srt stb hl5 s5 e5 D5 => ?_⟩
      have ly : ys.length ≤ 64 := by
        rw [D5.length, List.length_map, stb.perm.length_eq]
        refine Nat.le_trans (List.length_filter_le _ _) ?_
        rw [subsL_len]; exact Nat.pow_le_pow_right (n := 2) (by decide) (show xs.length ≤ 6 by omega)
      refine ⟨l, rfl, ⟨_, SqL.of e5⟩, fun D9 hD9 => ?_⟩
      refine lc_list (K := K) (a := l) (xs := ys) (fun k Hm => Same H5 Hm ∧ Hm D9 = some (.lst (ys.take k))) ⟨same_new hD9, upd_same⟩ (fun _ _ _ z => SqL.of (z.1 _ _ e5)) ?_ ?_
      · rintro k u Hm hu ⟨sm, em⟩
        have kl := (List.getElem?_eq_some_iff.mp hu).1
        refine ⟨rfl, yesIf ⟨_, rfl, _, em, small1000 (by rw [List.length_take]; omega), Same.app hD9 sm, ?_⟩⟩
        rw [upd_same, List.take_add_one, hu]; rfl
      · rintro Hm ⟨sm, em⟩
        rw [List.take_length] at em
        refine ⟨s5.trans sm, D9, ys, rows2, _, em, D5.mono sm, fun r hr => ?_, fun hl => stb.perm.mem_iff.mpr (by rw [lx]; exact full_sets70 hl), ly, rfl⟩
        have := stb.perm.mem_iff.mp hr
        unfold setsL at this ⊢
        obtain ⟨h1, h2⟩ := List.mem_filter.mp this
        rw [lx] at h1
        exact List.mem_filter.mpr ⟨h1, decide_eq_true (by have := of_decide_eq_true h2; omega)⟩
    rintro σ H6 ⟨s6, l, ys, rows2, v7', e6, D6, hin2, hfu, ly, rfl⟩
    have B6 := Bn.on s6
    have b6 := bn.trans' s6
    have s6h := hid_same (b := b) s6
    have hh6 := sameT s6h hh
    have hr6 := sameT s6h hr'
    have hd6 := hd.mono s6h
    have hS6 := s6.seq hSn
    have hA6 := hAn.mono s6
    clear hh hr' hd hSn hAn hCn s6h ebn bn Bn s6
    refine ⟨fun σ' H' => Same H6 H' ∧ ∃ (l2 : Addr) (zs : List V) (rows3 : List (List Int)) (v7 : Option V), H' l2 = some (.lst zs) ∧ DpAll K H' zs (rows3.map rowD) ∧ (∀ r ∈ rows3, r ∈ setsL js.length 6) ∧ (i = 0 → js.length ≤ cs[i] → rows3 ≠ []) ∧ zs.length ≤ 64 ∧ l2 ≠ b ∧ σ' = [some (.ref b), some (.int m), some (.ref a), some (.ref c), some (.ref ph), some (.ref pr), some (.int (i : Int)), v7, some (.ref l), some (.ref l2)], ?_, ?_⟩
    · refine ⟨_, rfl, l, rfl, ⟨_, SqL.of e6⟩, fun D9 hD9 => ?_⟩
      refine lc_list (K := K) (a := l) (xs := ys) (fun k Hm => Same H6 Hm ∧ ∃ (zs : List V) (rows3 : List (List Int)), Hm D9 = some (.lst zs) ∧ DpAll K H6 zs (rows3.map rowD) ∧ (∀ r ∈ rows3, r ∈ setsL js.length 6) ∧ (∀ r ∈ rows2.take k, keptAll js ((i : Int) + 1) (plusR had r) = true → r ∈ rows3) ∧ zs.length ≤ k) ⟨same_new hD9, [], [], upd_same, .nil, (fun r hr => by cases hr), (fun r hr => by rw [List.take_zero] at hr; cases hr), Nat.le_refl _⟩ (fun _ _ _ z => SqL.of (z.1 _ _ e6)) ?_ ?_
      · rintro k u Hm hu ⟨sm, zs, rows3, em, dz, hz, hfl, lz⟩
        have kl := (List.getElem?_eq_some_iff.mp hu).1
        obtain ⟨r2, a2, hr2, rfl, ha2⟩ := row_at D6 hu
        have r2m := hin2 r2 (List.mem_of_getElem? hr2)
        refine ⟨rfl, _, rfl, _, rfl, _, rfl, ph, a2, had, r2, rfl, sameT hid_sub (sameT (hid_same sm) hh6), sameT sm ha2, by omega, fun p5 H7 hp5 s7 e7 => ?_⟩
        refine ⟨_, rfl, _, _, rfl, rfl, a, p5, xs, js, plusR had r2, (i : Int) + 1, rfl, (sm.trans s7).seq hS6, hA6.mono (sm.trans s7), SqT.of e7, gp, l6, by rw [plusR_len]; exact lh, fun H8 s8 => ⟨_, rfl, ?_⟩⟩
        have s68 := sm.trans (s7.trans s8)
        have em8 := (s7.trans s8) _ _ em
        cases ek9 : keptAll js ((i : Int) + 1) (plusR had r2) with
        | false => exact iteF ⟨s68, zs, rows3, em8, dz, hz, (fun r hr he => by
            rw [List.take_add_one, hr2] at hr
            rcases List.mem_append.mp hr with h | h
            · exact hfl r h he
            · rw [List.mem_singleton.mp h, ek9] at he; cases he), by omega⟩
        | true =>
          refine iteT ⟨_, rfl, zs, em8, small1000 (by omega), Same.app hD9 s68, zs ++ [.ref a2], rows3 ++ [r2], upd_same, ?_, fun r hr => ?_, fun r hr he => ?_, by rw [List.length_append]; show zs.length + 1 ≤ k + 1; omega⟩
          · rw [List.map_append]
            exact dz.append (.cons (.tup ha2 (.ints _)) .nil)
          · rcases List.mem_append.mp hr with h | h
            · exact hz r h
            · rw [List.mem_singleton.mp h]; exact r2m
          · rw [List.take_add_one, hr2] at hr
            rcases List.mem_append.mp hr with h | h
            · exact List.mem_append_left _ (hfl r h he)
            · rw [List.mem_singleton.mp h]; exact List.mem_append_right _ (List.mem_singleton.mpr rfl)
      · rintro Hm ⟨sm, zs, rows3, em, dz, hz, hfl, lz⟩
        have l23 : ys.length = rows2.length := by rw [D6.length, List.length_map]
        rw [l23, List.take_length] at hfl
        refine ⟨sm, D9, zs, rows3, _, em, dz.mono sm, hz, fun i0 hl e3 => ?_, by omega, B6.off hD9, rfl⟩
        have := hfl _ (hfu hl) (by rw [hz0 i0, full_plus70, i0]; exact full_kept70 gp)
        rw [e3] at this
        cases this
    rintro σ H7 ⟨s7, l2, zs, rows3, v7'', e7, dz, hz, hne, lz, nl2, rfl⟩
    have B7 := B6.on s7
    have b7 := b6.trans' s7
    have s7h := hid_same (b := b) s7
    have hh7 := sameT s7h hh6
    have hr7 := sameT s7h hr6
    have hd7 := hd6.mono s7h
    obtain ⟨x7, y7, z7, eb7⟩ := id B7.bas
    have stay : ∀ {Hx : Hp}, (∀ c, cs[0]? = some c → js.length ≤ c → 0 < rows.length) → Same H7 Hx → ∀ {v6 v7 v8 v9 : Option V}, But b H Hx ∧ Bag Hx b ∧ ∃ (ph' pr' : Addr) (had' : List Int) (us' : List V) (rows' : List (List Int)) (w6 w7 w8 w9 : Option V), SqT K (hid b Hx) ph' (had'.map V.int) ∧ had'.length = js.length ∧ SqT K (hid b Hx) pr' us' ∧ DpAll K (hid b Hx) us' (rows'.map rowD) ∧ rows'.length ≤ i + 1 ∧ (∀ r ∈ rows', r ∈ setsL js.length 6) ∧ (i + 1 = 0 → had' = List.replicate js.length 0) ∧ (1 ≤ i + 1 → ∀ c, cs[0]? = some c → js.length ≤ c → 0 < rows'.length) ∧ [some (.ref b), some (.int m), some (.ref a), some (.ref c), some (.ref ph), some (.ref pr), v6, v7, v8, v9] = [some (.ref b), some (.int m), some (.ref a), some (.ref c), some (.ref ph'), some (.ref pr'), w6, w7, w8, w9] := by
      intro Hx hst sx v6 v7 v8 v9
      exact ⟨b7.trans' sx, B7.on sx, ph, pr, had, us, rows, _, _, _, _, sameT (hid_same sx) hh7, lh, sameT (hid_same sx) hr7, hd7.mono (hid_same sx), by omega, hin, (fun z => absurd z (by omega)), (fun _ => hst), rfl⟩
    refine ⟨_, rfl, pr, us, rfl, .inr (sameT hid_sub hr7), _, rfl, rfl, _, rfl, ?_⟩
    by_cases c1 : us.length = i
    · rw [decide_eq_true (show V.int ((us.length : Nat) : Int) = V.int (i : Int) by rw [c1])]
      refine iteT ⟨_, rfl, by show 0 ≤ sizeLine; decide, fun pe hpe => ?_⟩
      have se : Same H7 (upd H7 pe (.lst [])) := same_new hpe
      refine ⟨.list (rows3.map rowD), .list [], .lst (SqL.of (se _ _ e7)) (dz.mono se), .lst (SqL.of upd_same) .nil, shaped_rowsL rows3, rfl, _, rfl, ?_⟩
      rw [eqv_rowsL]
      cases h3 : rows3.isEmpty with
      | true =>
        refine iteF (stay (fun c hc hl => ?_) se)
        by_cases i0 : i = 0
        · subst i0
          have e9 : c = cs[0] := by rw [hci] at hc; exact (Option.some.inj hc).symm
          exact absurd (by cases rows3 with
            | nil => rfl
            | cons _ _ => cases h3) (hne rfl (by rw [← e9]; exact hl))
        · exact hz1 (by omega) c hc hl
      | false =>
        refine iteT ?_
        have z0' : 0 < zs.length := by
          rw [dz.length, List.length_map]
          cases rows3 with
          | nil => cases h3
          | cons r rs => rw [List.length_cons]; omega
        revert se
        generalize upd H7 pe (.lst []) = H8
        intro s8
        have e8 := s8 _ _ e7
        have B8 := B7.on s8
        have b8 := b7.trans' s8
        have s8h := hid_same (b := b) s8
        obtain ⟨x8, y8, z8, eb8⟩ := id B8.bas
        have dz8 := rows_off eb8 (dz.mono s8)
        refine ⟨_, rfl, _, rfl, _, rfl, b, l2, zs, rfl, B8, nl2, e8, z0', by omega, fun k x H9 hx b9 B9 => ?_⟩
        obtain ⟨r3, a3, hr3, rfl, ha3⟩ := row_at (dz8.mono b9.hid) hx
        have r3m := hz r3 (List.mem_of_getElem? hr3)
        have hh9 := sameT b9.hid (sameT s8h hh7)
        have hr9 := sameT b9.hid (sameT s8h hr7)
        have hd9 := (hd7.mono s8h).mono b9.hid
        refine ⟨by show 1 ≤ sizeLine; decide, fun t1 ht1 => ?_⟩
        have s10 := same_new (o := .tup [V.ref a3]) ht1
        have e10 : (upd H9 t1 (.tup [V.ref a3])) t1 = some (.tup [V.ref a3]) := upd_same
        revert s10 e10
        generalize upd H9 t1 (.tup [V.ref a3]) = H10
        intro s10 e10
        have lus : us.length = rows.length := by rw [hd7.length, List.length_map]
        refine ⟨pr, t1, us, [.ref a3], rfl, rfl, sameT hid_sub (sameT (hid_same s10) hr9), SqT.of e10, Nat.le_of_lt (small1000 (by show us.length + 1 ≤ 1000; omega)), fun p7 H11 s11 c11 S11 => ?_⟩
        dsimp only [List.set]
        have s911 := s10.trans s11
        have B11 := B9.on s911
        obtain ⟨x11, y11, z11, eb11⟩ := id B11.bas
        refine ⟨_, rfl, _, rfl, _, rfl, p7, _, _, .ref a3, rfl, rfl, S11, atI_last us (.ref a3), ph, a3, had, r3, rfl, sameT hid_sub (sameT (hid_same s911) hh9), sameT s911 (sameT hid_sub ha3), by omega, fun p8 H12 hp8 s12 e12 => ?_⟩
        have s912 := s911.trans s12
        obtain ⟨x12, y12, z12, eb12⟩ := id (B9.on s912).bas
        refine ⟨(b8.trans b9).trans' s912, B9.on s912, p8, p7, plusR had r3, us ++ [.ref a3], rows ++ [r3], _, _, _, _, seqT_hide eb12 (SqT.of e12), by rw [plusR_len]; exact lh, seqT_hide eb12 (sameT s12 S11), ?_, by rw [List.length_append]; show rows.length + 1 ≤ i + 1; omega, fun r hr => ?_, (fun z => absurd z (by omega)), (fun _ c _ _ => by rw [List.length_append]; show 0 < rows.length + 1; omega), rfl⟩
        · rw [List.map_append]
          exact (hd9.mono (hid_same s912)).append (.cons (.tup (sameT (hid_same s912) ha3) (.ints _)) .nil)
        · rcases List.mem_append.mp hr with h | h
          · exact hin r h
          · rw [List.mem_singleton.mp h]; exact r3m
    · rw [decide_eq_false (show ¬ V.int ((us.length : Nat) : Int) = V.int (i : Int) from fun z => c1 (by injection z with z; omega))]
      refine iteF (stay (fun c hc hl => hz1 ?_ c hc hl) (Same.refl _))
      have lus : us.length = rows.length := by rw [hd7.length, List.length_map]
      omega
  · rintro σ Hn ⟨bn, Bn, ph, pr, had, us, rows, v6, v7, v8, v9, hh, lh, hr', hd, lr, hin, hz0, hz1, rfl⟩
    exact ⟨_, rfl, q pr us rows Hn bn Bn hr' hd (by omega) hin fun c hc hl => hz1 (by have := (List.getElem?_eq_some_iff.mp hc).1; omega) c hc hl⟩
end
end Ts
namespace Ts
open PySem PySem.Spec PyProof.Rows L2 L2H LamX
section
variable {P : Program} {w : World} {K : PySem.W.Frag} {mg : Str → Option Value} {base : Heap}
theorem has_bent_row70 (D : DefAt K mg "_law_bent_row" s__law_bent_row) (B : Blt0 mg) (h__law_take : Has P w K mg base 1 "_law_take" ["_law_bag_here", "_law_many"] spTake) (h__law_of : Has P w K mg base 2 "_law_of" ["_law_bag_here", "_law_things"] spOne) :
    Has P w K mg base 3 "_law_bent_row" ["_law_bag_here", "_law_row", "_law_size"] (spBentRow70 K) := by
  refine D.has (fun _ _ _ _ _ _ us hl => match us, hl with | [_, _, _], _ => rfl) fun f fd F => F.ok sc__law_bent_row (fun vs H Q E h => ?_) (fun cdv A outer s H vs Q E hr h => ?_)
  · obtain ⟨b, p, us, rows, m, rfl, _⟩ := h; rfl
  obtain ⟨b, p, us, rows, m, rfl, hB, hp, hd, l20, hrow, m0, m6, q⟩ := h
  refine ⟨_, (C8.pss_cut (ps_par (i := 3) (j := 4) (by rfl) sc__law_bent_row.nd rfl rfl (by decide) rfl rfl (pa_cons (pe_h h__law_take (hr.mono (by decide)) (pa_cons (pv 0) (pa_cons pe_int pa_nil))) (pa_cons (pe_h h__law_take (hr.mono (by decide)) (pa_cons (pv 0) (pa_cons (pe_callB (call_max2 rfl) (by rfl) B.zmax (by decide +kernel) (pa_cons pe_int (pa_cons (pe_callB call_len_seq (by rfl) B.zlen (by decide +kernel) (pa_cons (pv 1) pa_nil)) pa_nil))) pa_nil))) pa_nil)) (by rfl))
      (C8.pss_cut (ps_set (i := 6) sc__law_bent_row.nd rfl (.inl rfl) (pe_callTy call_tuple_of (by rfl) B.ztuple (by decide +kernel) (pa_cons (pe_callB (sortedI58 (w := w) rfl rfl) (by rfl) B.zsorted (by decide +kernel) (pa_cons (pe_callTy (setI58 (K := K) (w := w) rfl rfl rfl) (by rfl) B.zset (by decide +kernel) (pa_cons (pe_lc (own := [("_law_k", 5)]) rfl sc__law_bent_row.nd (pi_range1 (by rfl) B.zrange (pa_cons (pe_h h__law_take (hr.mono (by decide)) (pa_cons (pv 0) (pa_cons pe_int pa_nil))) pa_nil)) (blkOk_by (N := ["_law_bag_here", "_law_row", "_law_size", "_law_way", "_law_t", "_law_k", "_law_fresh"]) (sc := defScope s__law_bent_row) (own := [("_law_k", 5)]) (by decide +kernel)) (fun _ _ _ _ _ => (pg_name (i := 5) sc__law_bent_row.nd rfl (.inl rfl) (.inr rfl))) (fun _ _ _ _ _ => pts_nil) (fun _ _ _ _ _ => (pe_h h__law_take (hr.mono (by decide)) (pa_cons (pv 0) (pa_cons (pv 2) pa_nil))))) pa_nil)) pa_nil)) pa_nil)))
      (pss_cons (ps_if (PW.pt (pw_or (pt_cmpR (op_eqD (hu64 hr)) (pv 1) (pe_tup pa_nil) (nomark _)) (pw_or1 (pt_cmpR op_eq (pv 3) pe_int (nomark _))))) (pss_one (ps_ret (pe_h h__law_of (hr.mono (by decide)) (pa_cons (pv 0) (pa_cons (pe_lst (pa_cons (pe_callTy call_list_of (by rfl) B.zlist (by decide +kernel) (pa_cons (pv 1) pa_nil)) (pa_cons (pe_op (op_catUK (K := K) rfl) (pv 1) (pe_tup (pa_cons (pv 6) pa_nil))) (pa_cons (pe_slice sl_tupU (pv 1) po_none (po_some (pe_un un_neg pe_int))) (pa_cons pe_non (pa_cons (pe_tup pa_nil) (pa_cons (pe_op (op_repE (K := K) rfl) (pv 1) pe_int) (pa_cons (pv 1) (pa_cons pe_str pa_nil))))))))) pa_nil))))) pss_nil)
      (C8.pss_cut (ps_if (pt_cmpR op_eq (pv 3) pe_int (nomark _)) (pss_one (ps_set (i := 6) sc__law_bent_row.nd rfl (.inl rfl) (pe_h h__law_of (hr.mono (by decide)) (pa_cons (pv 0) (pa_cons (pe_lst (pa_cons (pe_callTy call_list_of (by rfl) B.zlist (by decide +kernel) (pa_cons (pe_ix ix_tup (pv 1) (pv 4) (fun _ _ => rfl)) pa_nil)) (pa_cons (pe_tup (pa_cons pe_bl pa_nil)) (pa_cons (pe_tup (pa_cons (pv 2) pa_nil)) (pa_cons (pe_tup (pa_cons (pe_un un_neg pe_int) pa_nil)) (pa_cons (pe_tup (pa_cons pe_int (pa_cons pe_int pa_nil))) (pa_cons (pe_tup (pa_cons pe_int (pa_cons pe_int pa_nil))) (pa_cons pe_non (pa_cons pe_int (pa_cons (pe_tup (pa_cons pe_str pa_nil)) (pa_cons (pe_op (op_catUK (K := K) rfl) (pe_ix ix_tup (pv 1) (pv 4) (fun _ _ => rfl)) (pe_tup (pa_cons (pe_op op_sub (pv 2) pe_int) pa_nil))) pa_nil))))))))))) pa_nil))))) pss_nil)
      (pss_cons (ps_if (pt_cmpR op_lt (pv 3) pe_int (nomark _)) (pss_one (ps_ret (pe_op (op_catUK (K := K) rfl) (pe_op (op_catUK (K := K) rfl) (pe_slice sl_tupU (pv 1) po_none (po_some (pv 4))) (pe_tup (pa_cons (pv 6) pa_nil))) (pe_slice sl_tupU (pv 1) (po_some (pe_op op_add (pv 4) pe_int)) po_none)))) pss_nil)
      (pss_cons (ps_if (pt_cmpR op_eq (pv 3) pe_int (nomark _)) (pss_one (ps_ret (pe_op (op_catUK (K := K) rfl) (pe_slice sl_tupU (pv 1) (po_some (pv 4)) po_none) (pe_slice sl_tupU (pv 1) po_none (po_some (pv 4)))))) pss_nil)
      (pss_one (ps_ret (pe_ifExp (pt_cmpR op_eq (pv 3) pe_int (nomark _)) (pe_revT (pv 1)) (pv 1)))))))))), ?_⟩
  have lu : us.length = rows.length := by rw [hd.length, List.length_map]
  have lst : ∀ {Hx : Hp}, But b H Hx → SqT K (hid b Hx) p us ∧ DpAll K (hid b Hx) us (rows.map rowD) := fun bx => ⟨sameT bx.hid hp, hd.mono bx.hid⟩
  refine ⟨fun σ' H' => But b H H' ∧ Bag H' b ∧ ∃ (way t : Nat), t < max 1 us.length ∧ σ' = [some (.ref b), some (.ref p), some (.int (m : Int)), some (.int (way : Int)), some (.int (t : Int)), none, none], ?_, ?_⟩
  · refine ⟨_, rfl, b, 10, rfl, hB, by decide, by decide, fun a1 H1 a10 a11 b1 B1 => ⟨_, rfl, _, rfl, p, us, rfl, .inr (sameT hid_sub (lst b1).1), _, _, rfl, b, _, rfl, B1, by split <;> omega, by split <;> omega, fun a2 H2 a20 a21 b2 B2 => ?_⟩⟩
    obtain ⟨x1, rfl⟩ := Int.eq_ofNat_of_zero_le a10
    obtain ⟨x2, rfl⟩ := Int.eq_ofNat_of_zero_le a20
    exact ⟨_, _, rfl, b1.trans b2, B2, x1, x2, by split at a21 <;> omega, rfl⟩
  rintro σ H2 ⟨b2, B2, way, t, ht, rfl⟩
  refine ⟨fun σ' H' => But b H H' ∧ Bag H' b ∧ ∃ (v5 : Option V) (pf : Addr) (fs : List Int), SqT K (hid b H') pf (fs.map V.int) ∧ σ' = [some (.ref b), some (.ref p), some (.int (m : Int)), some (.int (way : Int)), some (.int (t : Int)), v5, some (.ref pf)], ?_, ?_⟩
  · refine ⟨_, rfl, b, 3, rfl, B2, by decide, by decide, fun a3 H3 a30 a31 b3 B3 => ?_⟩
    obtain ⟨n3, rfl⟩ := Int.eq_ofNat_of_zero_le a30
    refine ⟨_, rfl, by omega, by omega, fun pl hpl => ?_⟩
    have npl : pl ≠ b := B3.off hpl
    have sp := same_new (o := .lst ([] : List V)) hpl
    refine lc_range (lo := 0) (n := ((n3 : Nat) : Int).toNat) (fun i Hm => But b H3 Hm ∧ Bag Hm b ∧ ∃ ns : List Int, ns.length = i ∧ Hm pl = some (.lst (ns.map V.int))) ⟨But.of_same sp, B3.on sp, [], rfl, upd_same⟩ ?_ ?_
    · rintro i Hm hi ⟨bm, Bm, ns, ln, em⟩
      refine ⟨rfl, yesIf ⟨_, rfl, _, rfl, b, (m : Int), rfl, Bm, by omega, by omega, fun a4 H4 a40 a41 b4 B4 => ?_⟩⟩
      have e4 := b4 _ _ npl em
      refine ⟨_, e4, by rw [List.length_map]; exact small1000 (by omega), ?_, ?_, ns ++ [a4], by rw [List.length_append, ln]; rfl, by rw [upd_same, List.map_append]; rfl⟩
      · exact fun a o n h => by rw [upd_ne (ne_of_none h hpl)]; exact b4 _ _ n (bm a o n h)
      · obtain ⟨x, y, z, h1, h2, e⟩ := B4; exact ⟨x, y, z, h1, h2, by rw [upd_ne npl.symm]; exact e⟩
    rintro Hm ⟨bm, Bm, ns, ln, em⟩
    refine ⟨pl, ns, rfl, .inl (SqL.of em), by omega, fun ps n hn hps => ?_⟩
    have s1 := same_new (o := SetO w ps (fun k => decide (k ∈ ns)) n) hps
    refine ⟨ps, _, n, rfl, upd_same, hn, fun fs p5 _ _ lf hp5 => ?_⟩
    have s2 := same_new (o := .lst (fs.map V.int)) hp5
    refine ⟨p5, _, rfl, .inl ⟨SqL.of upd_same, fun p6 hp6 => ?_⟩⟩
    have s3 := same_new (o := .tup (fs.map V.int)) hp6
    have s13 := s1.trans (s2.trans s3)
    have B6 := Bm.on s13
    obtain ⟨xe, ye, ze, eb6⟩ := id B6.bas
    exact ⟨((b2.trans b3).trans bm).trans' s13, B6, _, p6, fs, seqT_hide eb6 (SqT.of upd_same), rfl⟩
  rintro σ H3 ⟨b3, B3, v5, pf, fs, hf, rfl⟩
  obtain ⟨hp3, hd3⟩ := lst b3
  have hp3r := sameT hid_sub hp3
  obtain ⟨xe, ye, ze, eb3⟩ := id B3.bas
  refine ⟨_, rfl, by show 0 ≤ sizeLine; decide, fun pe hpe => ?_⟩
  have se := same_new (o := .tup ([] : List V)) hpe
  refine ⟨.tuple (rows.map rowD), .tuple [], .tup (sameT se hp3r) ((hd3.mono hid_sub).mono se), .tup (SqT.of upd_same) .nil, shaped_rows rows, rfl, ?_⟩
  rw [eqv_rowsT]
  refine ⟨_, rfl, ?_⟩
  revert se
  generalize upd H3 pe (.tup []) = H4
  intro s34
  refine or70 ?_ (fun e0 g => ?_)
  · refine iteT ?_
    have b4 := b3.trans' s34
    have B4 := B3.on s34
    have hf4 := sameT (hid_same (b := b) s34) hf
    have hp4r := sameT hid_sub (lst b4).1
    refine ⟨_, rfl, _, rfl, p, us, rfl, .inr hp4r, fun p4 h4 => ?_⟩
    have s5 := same_new (o := .lst us) h4
    refine ⟨_, rfl, _, rfl, by show 1 ≤ sizeLine; decide, fun p5 h5 => ?_⟩
    have s6 := same_new (o := .tup [V.ref pf]) h5
    refine ⟨p, p5, us, [.ref pf], rfl, rfl, sameT (s5.trans s6) hp4r, SqT.of upd_same, Nat.le_of_lt (small1000 (by show us.length + 1 ≤ 1000; omega)), fun p6 H6 s7 _ S6 => ?_⟩
    have s47 := s5.trans (s6.trans s7)
    refine ⟨_, rfl, _, rfl, (-1 : Int), rfl, p, us, rfl, sameT s47 hp4r, fun p7 H7 s8 _ S7 _ => ?_⟩
    have S6' := sameT s8 S6
    refine ⟨by show 0 ≤ sizeLine; decide, fun p8 h8 => ?_⟩
    have s9 := same_new (o := .tup ([] : List V)) h8
    have s48 := s47.trans (s8.trans s9)
    refine ⟨_, rfl, p, 2, us, rfl, rfl, sameT s48 hp4r, by decide, by decide, by omega, fun p9 H9 s10 S9 => ?_⟩
    have s49 := s48.trans s10
    refine ⟨_, rfl, by show 8 ≤ sizeLine; decide, fun L hL => ?_⟩
    have nL := (B4.on s49).off hL
    have sL := same_new (o := .lst [V.ref p4, .ref p6, .ref p7, .non, .ref p8, .ref p9, .ref p, .str "0"]) hL
    have s4L := s49.trans sL
    have BL := B4.on s4L
    obtain ⟨x9, y9, z9, ebL⟩ := id BL.bas
    have bL := b4.trans' s4L
    have hdL := Tk70.rows (lst bL).2
    have e4 : (upd H9 L (.lst [V.ref p4, .ref p6, .ref p7, .non, .ref p8, .ref p9, .ref p, .str "0"])) p4 = some (.lst us) := sL _ _ (s10 _ _ (s9 _ _ (s8 _ _ (s7 _ _ (s6 _ _ upd_same)))))
    have e8 : (upd H9 L (.lst [V.ref p4, .ref p6, .ref p7, .non, .ref p8, .ref p9, .ref p, .str "0"])) p8 = some (.tup []) := sL _ _ (s10 _ _ upd_same)
    have n4 : p4 ≠ b := B4.off h4
    have all : ∀ x ∈ [V.ref p4, .ref p6, .ref p7, .non, .ref p8, .ref p9, .ref p, .str "0"], ∃ t, TabP K (hid b (upd H9 L (.lst [V.ref p4, .ref p6, .ref p7, .non, .ref p8, .ref p9, .ref p, .str "0"]))) x t := by
      intro x hx
      simp only [List.mem_cons, List.not_mem_nil, or_false] at hx
      rcases hx with rfl | rfl | rfl | rfl | rfl | rfl | rfl | rfl
      · exact tab_no70 (T := "list") (by decide) (.base (.lst ((hid_ne n4).trans e4)))
      · exact Tk70.tab (hdL.append fun x hx => by rw [List.mem_singleton.mp hx]; exact tS_ints (sameT (hid_same s4L) hf4)) (seqT_hide ebL (sameT (s8.trans (s9.trans (s10.trans sL))) S6))
      · exact Tk70.tab (hdL.sub fun x hx => cutV_mem70 hx) (seqT_hide ebL (sameT (s9.trans (s10.trans sL)) S7))
      · exact tab_no70 (T := "NoneType") (by decide) (.base .non)
      · exact Tk70.tab (us := []) (fun x hx => by cases hx) (seqT_hide ebL (SqT.of e8))
      · exact Tk70.tab (hdL.sub fun x hx => by obtain ⟨l, h1, h2⟩ := List.mem_flatten.mp hx; rw [List.eq_of_mem_replicate h1] at h2; exact h2) (seqT_hide ebL (sameT sL S9))
      · exact Tk70.tab hdL (lst bL).1
      · exact tab_no70 (T := "str") (by decide) (.base (.str _))
    refine ⟨b, L, _, rfl, BL, nL, upd_same, by show 0 < 8; decide, by show 8 ≤ 1000; decide, fun i x H7 hx7 b7 B7 => ?_⟩
    obtain ⟨tt, ht⟩ := tab_mono70 b7.hid (all x (List.mem_of_getElem? hx7))
    exact q x tt H7 (bL.trans b7) B7 ht
  refine ⟨_, rfl, rfl, _, rfl, ?_⟩
  by_cases cz : way = 0
  · rw [decide_eq_true (show V.int (way : Int) = V.int 0 by rw [cz]; rfl)]
    exact g
  rw [decide_eq_false (show ¬ V.int (way : Int) = V.int 0 from fun z => cz (by injection z with z; omega))]
  refine iteF ?_
  have l0 : 0 < rows.length := by cases rows with
    | nil => cases e0
    | cons r rs => rw [List.length_cons]; omega
  have ht2 : t < us.length := by omega
  clear g e0
  have b4 := b3.trans' s34
  have B4 := B3.on s34
  have hf4 := sameT (hid_same (b := b) s34) hf
  clear hp3 hd3 hp3r eb3 hf b3 B3 s34
  obtain ⟨hp4, hd4⟩ := lst b4
  have hp4r := sameT hid_sub hp4
  have hut : us[t]? = some us[t] := List.getElem?_eq_getElem ht2
  obtain ⟨r0, a0, hr0, ea0, ha0⟩ := row_at hd4 hut
  refine ⟨fun σ' H' => But b H H' ∧ Bag H' b ∧ ∃ (v5 : Option V) (v : V), (∃ r, ThingS K (hid b H') v r) ∧ σ' = [some (.ref b), some (.ref p), some (.int (m : Int)), some (.int (way : Int)), some (.int (t : Int)), v5, some v], ?_, ?_⟩
  · refine ⟨_, rfl, rfl, _, rfl, ite2 (fun c => ?_) (fun c => ⟨b4, B4, _, _, tS_ints hf4, rfl⟩)⟩
    have l6 := hrow r0 (List.mem_of_getElem? hr0)
    have ha4 := sameT hid_sub ha0
    rw [ea0] at hut
    refine ⟨_, rfl, _, rfl, _, rfl, p, us, (t : Int), .ref a0, rfl, rfl, hp4r, atI_nat hut, a0, _, rfl, .inr ha4, fun q1 k1 => ?_⟩
    have s1 := same_new (o := .lst (r0.map V.int)) k1
    refine ⟨by show 1 ≤ sizeLine; decide, fun q2 k2 => ?_⟩
    have s2 := same_new (o := .tup [V.bl true]) k2
    refine ⟨_, rfl, by show 1 ≤ sizeLine; decide, fun q3 k3 => ?_⟩
    have s3 := same_new (o := .tup [V.int (m : Int)]) k3
    refine ⟨_, rfl, by show 1 ≤ sizeLine; decide, fun q4 k4 => ?_⟩
    have s4 := same_new (o := .tup [V.int (-1)]) k4
    refine ⟨by show 2 ≤ sizeLine; decide, fun q5 k5 => ?_⟩
    have s5 := same_new (o := .tup [V.int 0, .int 0]) k5
    refine ⟨by show 2 ≤ sizeLine; decide, fun q6 k6 => ?_⟩
    have s6 := same_new (o := .tup [V.int 1, .int 0]) k6
    refine ⟨by show 1 ≤ sizeLine; decide, fun q7 k7 => ?_⟩
    have s7 := same_new (o := .tup [V.str "0"]) k7
    have z17 := s1.trans (s2.trans (s3.trans (s4.trans (s5.trans (s6.trans s7)))))
    refine ⟨_, rfl, _, rfl, p, us, (t : Int), .ref a0, rfl, rfl, sameT z17 hp4r, atI_nat hut, _, rfl, _, _, rfl, rfl, by show 1 ≤ sizeLine; decide, fun q8 k8 => ?_⟩
    have s8 := same_new (o := .tup [V.int ((m : Int) - 1)]) k8
    refine ⟨a0, q8, _, _, rfl, rfl, sameT (z17.trans s8) ha4, SqT.of upd_same, Nat.le_of_lt (small1000 (by rw [List.length_map]; show _ + 1 ≤ 1000; omega)), fun q9 H9 s9 _ S9 => ?_⟩
    have e1 := (s2.trans (s3.trans (s4.trans (s5.trans (s6.trans (s7.trans (s8.trans s9))))))) q1 _ upd_same
    have e2 := (s3.trans (s4.trans (s5.trans (s6.trans (s7.trans (s8.trans s9)))))) q2 _ upd_same
    have e3 := (s4.trans (s5.trans (s6.trans (s7.trans (s8.trans s9))))) q3 _ upd_same
    have e4 := (s5.trans (s6.trans (s7.trans (s8.trans s9)))) q4 _ upd_same
    have e5 := (s6.trans (s7.trans (s8.trans s9))) q5 _ upd_same
    have e6 := (s7.trans (s8.trans s9)) q6 _ upd_same
    have e7 := (s8.trans s9) q7 _ upd_same
    have z19 := z17.trans (s8.trans s9)
    have n1 := B4.off k1
    clear s1 s2 s3 s4 s5 s6 s7 s8 s9 z17 k1 k2 k3 k4 k5 k6 k7 k8
    refine ⟨by show 10 ≤ sizeLine; decide, fun L hL => ?_⟩
    have nL := (B4.on z19).off hL
    have sL := same_new (o := .lst [V.ref q1, .ref q2, .ref q3, .ref q4, .ref q5, .ref q6, .non, .int 0, .ref q7, .ref q9]) hL
    have eL : (upd H9 L (.lst [V.ref q1, .ref q2, .ref q3, .ref q4, .ref q5, .ref q6, .non, .int 0, .ref q7, .ref q9])) L = some (.lst [V.ref q1, .ref q2, .ref q3, .ref q4, .ref q5, .ref q6, .non, .int 0, .ref q7, .ref q9]) := upd_same
    revert sL eL
    generalize upd H9 L (.lst [V.ref q1, .ref q2, .ref q3, .ref q4, .ref q5, .ref q6, .non, .int 0, .ref q7, .ref q9]) = HL
    intro sL eL
    have s4L := z19.trans sL
    have BL := B4.on s4L
    obtain ⟨x9, y9, z9, ebL⟩ := id BL.bas
    have bL := b4.trans' s4L
    have all : ∀ x ∈ [V.ref q1, .ref q2, .ref q3, .ref q4, .ref q5, .ref q6, .non, .int 0, .ref q7, .ref q9], ∃ t, ThingS K (hid b HL) x t := by
      intro x hx
      simp only [List.mem_cons, List.not_mem_nil, or_false] at hx
      have up : ∀ {a : Addr} {xs : List V}, H9 a = some (.tup xs) → SqT K (hid b HL) a xs := fun e => seqT_hide ebL (SqT.of (sL _ _ e))
      rcases hx with rfl | rfl | rfl | rfl | rfl | rfl | rfl | rfl | rfl | rfl
      · exact ⟨none, "list", by decide, .base (.lst ((hid_ne n1).trans (sL _ _ e1)))⟩
      · exact tS_one70 (T := "bool") (by decide) (.base (.bl _)) (up e2) ⟨"bool", by decide, .base (.bl _)⟩
      · exact tS_ints (ms := [(m : Int)]) (up e3)
      · exact tS_ints (ms := [-1]) (up e4)
      · exact tS_ints (ms := [0, 0]) (up e5)
      · exact tS_ints (ms := [1, 0]) (up e6)
      · exact ⟨none, "NoneType", by decide, .base .non⟩
      · exact ⟨none, "int", by decide, .base (.int _)⟩
      · exact tS_one70 (T := "str") (by decide) (.base (.str _)) (up e7) ⟨"str", by decide, .base (.str _)⟩
      · exact tS_ints (ms := r0 ++ [(m : Int) - 1]) (by rw [List.map_append]; exact seqT_hide ebL (sameT sL S9))
    refine ⟨b, L, _, rfl, BL, nL, eL, by show 0 < 10; decide, by show 10 ≤ 1000; decide, fun i x H7 hx7 b7 B7 => ?_⟩
    exact ⟨bL.trans b7, B7, _, x, tS_mono b7.hid (all x (List.mem_of_getElem? hx7)), rfl⟩
  rintro σ H5 ⟨b5, B5, v5', v, hv, rfl⟩
  obtain ⟨hp5, hd5⟩ := lst b5
  have hp5r := sameT hid_sub hp5
  refine ⟨_, rfl, _, _, rfl, rfl, _, rfl, ite2 (fun c => ?_) (fun c => ?_)⟩
  · refine ⟨_, rfl, _, rfl, (t : Int), rfl, p, us, rfl, hp5r, fun p6 H6 s6 _ S6 _ => ?_⟩
    refine ⟨_, rfl, by show 1 ≤ sizeLine; decide, fun p7 h7 => ?_⟩
    have s7 := same_new (o := .tup [v]) h7
    rw [cut_top] at S6
    refine ⟨p6, p7, _, _, rfl, rfl, sameT s7 S6, SqT.of upd_same, Nat.le_of_lt (small1000 (by rw [List.length_take]; show _ + 1 ≤ 1000; omega)), fun p8 H8 s8 _ S8 => ?_⟩
    have s58 := s6.trans (s7.trans s8)
    refine ⟨_, rfl, _, rfl, _, _, rfl, rfl, ((t + 1 : Nat) : Int), rfl, p, us, rfl, sameT s58 hp5r, fun p9 H9 s9 _ S9 _ => ?_⟩
    rw [cut_from (show t + 1 ≤ us.length by omega)] at S9
    refine ⟨p8, p9, _, _, rfl, rfl, sameT s9 S8, S9, Nat.le_of_lt (small1000 (by rw [List.length_append, List.length_take, List.length_drop]; show _ + 1 + _ ≤ 1000; omega)), fun p10 H10 s10 _ S10 => ?_⟩
    have s510 := s58.trans (s9.trans s10)
    have B10 := B5.on s510
    obtain ⟨x9, y9, z9, eb10⟩ := id B10.bas
    have hd10 := Tk70.rows (hd5.mono (hid_same (b := b) s510))
    obtain ⟨tt, ht⟩ := Tk70.tab (K := K) (H := hid b H10) (us := us.take t ++ [v] ++ us.drop (t + 1)) (((hd10.sub fun x hx => List.mem_of_mem_take hx).append fun x hx => by rw [List.mem_singleton.mp hx]; exact tS_mono (hid_same s510) hv).append (hd10.sub fun x hx => List.mem_of_mem_drop hx)) (seqT_hide eb10 S10)
    exact q _ tt _ (b5.trans' s510) B10 ht
  refine ⟨_, rfl, rfl, _, rfl, ite2 (fun c => ?_) (fun c => ?_)⟩
  · refine ⟨_, rfl, _, rfl, (t : Int), rfl, p, us, rfl, hp5r, fun p6 H6 s6 _ S6 _ => ?_⟩
    refine ⟨_, rfl, _, rfl, (t : Int), rfl, p, us, rfl, sameT s6 hp5r, fun p7 H7 s7 _ S7 _ => ?_⟩
    rw [cut_from (show t ≤ us.length by omega)] at S6
    rw [cut_top] at S7
    refine ⟨p6, p7, _, _, rfl, rfl, sameT s7 S6, S7, Nat.le_of_lt (small1000 (by rw [List.length_take, List.length_drop]; omega)), fun p10 H10 s10 _ S10 => ?_⟩
    have s510 := s6.trans (s7.trans s10)
    have B10 := B5.on s510
    obtain ⟨x9, y9, z9, eb10⟩ := id B10.bas
    have hd10 := Tk70.rows (hd5.mono (hid_same (b := b) s510))
    obtain ⟨tt, ht⟩ := Tk70.tab (K := K) (H := hid b H10) (us := us.drop t ++ us.take t) ((hd10.sub fun x hx => List.mem_of_mem_drop hx).append (hd10.sub fun x hx => List.mem_of_mem_take hx)) (seqT_hide eb10 S10)
    exact q _ tt _ (b5.trans' s510) B10 ht
  refine ⟨_, rfl, rfl, _, rfl, ite2 (fun c => ?_) (fun c => ?_)⟩
  · refine ⟨_, rfl, p, _, rfl, hp5r, fun p6 h6 => ?_⟩
    have s6 := same_new (o := .tup us.reverse) h6
    have B6 := B5.on s6
    obtain ⟨x9, y9, z9, eb6⟩ := id B6.bas
    have hd6 := Tk70.rows (hd5.mono (hid_same (b := b) s6))
    obtain ⟨tt, ht⟩ := Tk70.tab (hd6.sub fun x hx => List.mem_reverse.mp hx) (seqT_hide eb6 (SqT.of upd_same))
    exact q _ tt _ (b5.trans' s6) B6 ht
  · obtain ⟨tt, ht⟩ := Tk70.tab (Tk70.rows hd5) hp5
    exact ⟨_, rfl, q _ tt _ b5 B5 ht⟩
end
end Ts
namespace Ts
open PySem PySem.Spec PyProof.Rows L2 L2H LamX
section
variable {P : Program} {w : World} {K : PySem.W.Frag} {mg : Str → Option Value} {base : Heap}
theorem has_is_row67 (D : DefAt K mg "_law_is_row" s__law_is_row) (B : Blt0 mg) (h__law_whole : Has P w K mg base 1 "_law_whole" ["_law_thing"] (spWhole K)) (h__law_kept : Has P w K mg base 1 "_law_kept" ["_law_shares_here", "_law_had", "_law_moment_here"] (spKept70 K)) (h__law_more : Has P w K mg base 1 "_law_more" ["_law_had", "_law_lot_here"] (spPlusJ K)) :
    Has P w K mg base 2 "_law_is_row" ["_law_shares_here", "_law_counts_here", "_law_thing"] (spIsRow67 K) := by
  refine D.has (fun _ _ _ _ _ _ us hl => match us, hl with | [_, _, _], _ => rfl) fun f fd F => F.ok sc__law_is_row (fun vs H Q E h => ?_) (fun cdv A outer s H vs Q E hr h => ?_)
  · obtain ⟨a, c, v, xs, js, cs, t, rfl, _⟩ := h; rfl
  obtain ⟨a, c, v, xs, js, cs, t, rfl, hS, hA, hC, gp, l0, l6, lc, hcs, hv, q⟩ := h
  refine ⟨_, (pss_cons (ps_if (PW.pt (pw_or (pt_not (pt_val (pe_callB call_isi (by rfl) B.zisinstance (by decide +kernel) (pa_cons (pv 2) (pa_cons (pe_ty "tuple" B.ztuple) pa_nil))))) (pw_or1 (pt_cmpR op_ne (pe_callB call_len_seq (by rfl) B.zlen (by decide +kernel) (pa_cons (pv 2) pa_nil)) (pe_callB call_len_seq (by rfl) B.zlen (by decide +kernel) (pa_cons (pv 1) pa_nil)) (nomark _))))) (pss_one (ps_ret pe_bl)) pss_nil)
      (pss_cons (ps_set (i := 3) sc__law_is_row.nd rfl (.inl rfl) (pe_op (op_rep1 rfl) (pe_tup (pa_cons pe_int pa_nil)) (pe_callB call_len_seq (by rfl) B.zlen (by decide +kernel) (pa_cons (pv 0) pa_nil))))
      (pss_cons (ps_for PassesOwn.never rfl (pi_range1 (by rfl) B.zrange (pa_cons (pe_callB call_len_seq (by rfl) B.zlen (by decide +kernel) (pa_cons (pv 2) pa_nil)) pa_nil)) (pg_name (i := 4) sc__law_is_row.nd rfl (.inl rfl)) (pss_cons (ps_if (PW.pt (pw_or (pt_not (pt_val (pe_callB call_isi (by rfl) B.zisinstance (by decide +kernel) (pa_cons (pe_ix ix_tup (pv 2) (pv 4) (fun _ _ => rfl)) (pa_cons (pe_ty "tuple" B.ztuple) pa_nil))))) (pw_or1 (pt_cmpR op_gt (pe_callB call_len_seq (by rfl) B.zlen (by decide +kernel) (pa_cons (pe_ix ix_tup (pv 2) (pv 4) (fun _ _ => rfl)) pa_nil)) (pe_ix ix_list (pv 1) (pv 4) (fun _ _ => rfl)) (nomark _))))) (pss_one (ps_ret pe_bl)) pss_nil)
      (pss_cons (ps_if (pt_not (pt_val (pe_callB (call_allB rfl) (by rfl) B.zall (by decide +kernel) (pa_cons (pe_lc (own := [("_law_k", 5)]) rfl sc__law_is_row.nd (pi_tup (pe_ix ix_tup (pv 2) (pv 4) (fun _ _ => rfl))) (blkOk_by (N := ["_law_shares_here", "_law_counts_here", "_law_thing", "_law_had", "_law_t", "_law_k"]) (sc := defScope s__law_is_row) (own := [("_law_k", 5)]) (by decide +kernel)) (fun _ _ _ _ _ => (pg_name (i := 5) sc__law_is_row.nd rfl (.inl rfl) (.inr rfl))) (fun _ _ _ _ _ => pts_nil) (fun _ _ _ _ _ => (pe_and (pe_h h__law_whole (hr.mono (by decide)) (pa_cons (pv 5) pa_nil)) (pe_one (pe_chain op_le op_lt pe_int (pv 5) (pe_callB (lenS (K := K) rfl) (by rfl) B.zlen (by decide +kernel) (pa_cons (pv 0) pa_nil))))))) pa_nil)))) (pss_one (ps_ret pe_bl)) pss_nil)
      (pss_cons (ps_if (pt_cmpR (op_neD (hu64 hr)) (pe_callTy call_list_of (by rfl) B.zlist (by decide +kernel) (pa_cons (pe_ix ix_tup (pv 2) (pv 4) (fun _ _ => rfl)) pa_nil)) (pe_callB (sortedI58 (w := w) rfl rfl) (by rfl) B.zsorted (by decide +kernel) (pa_cons (pe_callTy (setI58 (K := K) (w := w) rfl rfl rfl) (by rfl) B.zset (by decide +kernel) (pa_cons (pe_ix ix_tup (pv 2) (pv 4) (fun _ _ => rfl)) pa_nil)) pa_nil)) (nomark _)) (pss_one (ps_ret pe_bl)) pss_nil)
      (pss_cons (ps_set (i := 3) sc__law_is_row.nd rfl (.inl rfl) (pe_h h__law_more (hr.mono (by decide)) (pa_cons (pv 3) (pa_cons (pe_ix ix_tup (pv 2) (pv 4) (fun _ _ => rfl)) pa_nil))))
      (pss_one (ps_if (pt_not (pt_val (pe_h h__law_kept (hr.mono (by decide)) (pa_cons (pv 0) (pa_cons (pv 3) (pa_cons (pe_op op_add (pv 4) pe_int) pa_nil)))))) (pss_one (ps_ret pe_bl)) pss_nil)))))))
      (pss_one (ps_ret pe_bl))))), ?_⟩
  have lx : xs.length = js.length := by rw [hA.length]; unfold sharesD; rw [List.length_map]
  cases t with
  | none =>
    obtain ⟨T, hT, ht⟩ := hv
    have k : PySem.W.kitOne K (.type T) (.type "tuple") = some false := by
      have go : ∀ T ∈ ["int", "bool", "str", "NoneType", "list", "dict"], kitB T "tuple" = some false := by decide +kernel
      exact kit_ty (go T hT)
    exact ⟨_, rfl, _, _, _, _, _, rfl, .ty "tuple", ht, k, false, rfl, iteT (q H (Same.refl _))⟩
  | some rs =>
    obtain ⟨p, us, rfl, hT, hl, hx⟩ := hv
    refine ⟨_, rfl, _, _, _, _, _, rfl, .ty "tuple", sqt_ty37 hT, kit_ty (r := true) (by decide +kernel), true, rfl, iteF ⟨_, rfl, p, us, rfl, .inr hT, _, rfl, c, _, rfl, .inl hC, rfl, _, rfl, ?_⟩⟩
    have lcm : (cs.map V.int).length = cs.length := List.length_map _
    by_cases c1 : rs.length = cs.length
    · rw [decide_eq_true (show V.int ((us.length : Nat) : Int) = V.int (((cs.map V.int).length : Nat) : Int) by rw [lcm, hl, c1])]
      refine iteF ⟨by show 1 ≤ sizeLine; decide, fun z0 hz0 => ?_⟩
      have s0 := same_new (o := .tup [V.int 0]) hz0
      refine ⟨_, rfl, a, xs, rfl, .inl (s0.seq hS), z0, xs.length, .int 0, rfl, rfl, SqT.of upd_same, by omega, by omega, fun ph H2 s2 hp2 => ?_⟩
      have s02 := s0.trans s2
      refine ⟨_, rfl, p, us, rfl, .inr (sameT s02 hT), _, rfl, by omega, by omega, for_range (lo := 0) (n := ((us.length : Nat) : Int).toNat) (fun i σ Hn => Same H Hn ∧ ∃ (ph : Addr) (had : List Int) (v4 v5 : Option V), SqT K Hn ph (had.map V.int) ∧ had.length = js.length ∧ keepsGo js cs (rs.drop i) i had = keepsGo js cs rs 0 (List.replicate js.length 0) ∧ σ = [some (.ref a), some (.ref c), some (.ref p), some (.ref ph), v4, v5]) ⟨s02, ph, List.replicate js.length 0, _, _, by rw [List.map_replicate, ← lx]; exact hp2, List.length_replicate, by rw [List.drop_zero], rfl⟩ ?_ ?_⟩
      · rintro i σ Hn hi ⟨sn, ph, had, v4, v5, hh, lh, ek, rfl⟩
        have z0 : (0 : Int) + (i : Int) = (i : Int) := by omega
        rw [z0]
        dsimp only [List.set]
        have hiu : i < us.length := by omega
        have hci : cs[i]? = some cs[i] := List.getElem?_eq_getElem (by omega)
        have hui : us[i]? = some us[i] := List.getElem?_eq_getElem hiu
        have hri : rs[i]? = some rs[i] := List.getElem?_eq_getElem (by omega)
        have ht := hx i us[i] rs[i] hui hri
        have eg := keepsGo_drop70 (js := js) (cs := cs) (had := had) hri
        have ec : cs.getD i 0 = cs[i] := by rw [List.getD_eq_getElem?_getD, hci]; rfl
        rw [ek, ec] at eg
        have c6 : cs[i] ≤ 6 := hcs _ (List.getElem_mem _)
        generalize us[i] = u at *
        generalize rs[i] = r at *
        generalize cs[i] = n at *
        have kb : keepsB js cs (some rs) = keepsGo js cs rs 0 (List.replicate js.length 0) := by
          show (decide (rs.length = cs.length) && _) = _
          rw [decide_eq_true c1, Bool.true_and]
        rw [kb, eg] at q
        have no : membersB (js.length : Int) n r = false → ∀ Hx, Same H Hx → Q (.bl false) Hx := fun z Hx sx => by
          have := q Hx sx
          rwa [z] at this
        have hTn := sameT sn hT
        cases r with
        | none =>
          obtain ⟨T, hT', ht'⟩ := ht
          have k : PySem.W.kitOne K (.type T) (.type "tuple") = some false := by
            have go : ∀ T ∈ ["int", "bool", "str", "NoneType", "list", "dict"], kitB T "tuple" = some false := by decide +kernel
            exact kit_ty (go T hT')
          exact ⟨_, rfl, _, rfl, p, us, (i : Int), u, rfl, rfl, hTn, atI_nat hui, _, _, _, _, _, rfl, .ty "tuple", TyX.mono ht' sn, k, false, rfl, iteT (no rfl Hn sn)⟩
        | some os =>
          obtain ⟨p2, zs, rfl, hZ, hlz, hz⟩ := ht
          have hZn := sameT sn hZ
          have hCn := sn.seq hC
          have hSn := sn.seq hS
          refine ⟨_, rfl, _, rfl, p, us, (i : Int), .ref p2, rfl, rfl, hTn, atI_nat hui, _, _, _, _, _, rfl, .ty "tuple", sqt_ty37 hZn, kit_ty (r := true) (by decide +kernel), true, rfl, iteF ?_⟩
          refine ⟨_, rfl, _, rfl, p, us, (i : Int), .ref p2, rfl, rfl, hTn, atI_nat hui, p2, zs, rfl, .inr hZn, _, rfl, _, rfl, c, _, (i : Int), .int n, rfl, rfl, hCn, atI_nat (by rw [List.getElem?_map, hci]; rfl), _, _, rfl, rfl, _, rfl, ?_⟩
          by_cases c2 : (os.length : Int) ≤ n
          · rw [decide_eq_false (show ¬ n < ((zs.length : Nat) : Int) by omega)]
            refine iteF ?_
            refine ⟨_, rfl, _, rfl, p, us, (i : Int), .ref p2, rfl, rfl, hTn, atI_nat hui, p2, rfl, ⟨_, hZn⟩, fun D hD => ?_⟩
            refine lc_tup (K := K) (a := p2) (xs := zs) (fun j Hm => Same Hn Hm ∧ Hm D = some (.lst (((os.take j).map fun o => inRg o 0 ((js.length : Int) - 1)).map V.bl))) ⟨same_new hD, upd_same⟩ (fun _ _ _ z => sameT z.1 hZn) ?_ ?_
            · rintro j x Hm hj ⟨sm, em⟩
              have lj : j < os.length := by have := (List.getElem?_eq_some_iff.mp hj).1; omega
              have hoj : os[j]? = some os[j] := List.getElem?_eq_getElem lj
              have hk := (hz j x os[j] hj hoj).mono (sn.trans sm)
              have l1 : (((os.take j).map fun o => inRg o 0 ((js.length : Int) - 1)).map V.bl).length < sizeLine := by rw [List.length_map, List.length_map, List.length_take]; exact small1000 (by omega)
              have ea : ∀ c : Bool, inRg os[j] 0 ((js.length : Int) - 1) = c → (upd Hm D (.lst ((((os.take j).map fun o => inRg o 0 ((js.length : Int) - 1)).map V.bl) ++ [.bl c]))) D = some (.lst (((os.take (j + 1)).map fun o => inRg o 0 ((js.length : Int) - 1)).map V.bl)) := fun c e => by
                rw [upd_same, List.take_add_one, hoj, List.map_append, List.map_append, ← e]; rfl
              generalize os[j] = o at *
              refine ⟨rfl, yesIf ⟨_, rfl, x, o, rfl, hk, _, rfl, ?_⟩⟩
              cases o with
              | none => exact ⟨_, em, l1, Same.app hD sm, ea _ rfl⟩
              | some m =>
                have ex : x = .int m := hk
                subst ex
                refine ⟨_, rfl, _, _, rfl, rfl, _, rfl, ?_⟩
                by_cases d1 : (0 : Int) ≤ m
                · rw [decide_eq_true d1, if_pos rfl]
                  refine ⟨_, rfl, a, xs, rfl, .inl (sm.seq hSn), _, _, rfl, rfl, _, em, l1, Same.app hD sm, ea _ ?_⟩
                  show decide (0 ≤ m ∧ m ≤ (js.length : Int) - 1) = decide (m < ((xs.length : Nat) : Int))
                  rw [lx]
                  by_cases d2 : m < (js.length : Int)
                  · rw [decide_eq_true d2, decide_eq_true ⟨d1, by omega⟩]
                  · rw [decide_eq_false d2, decide_eq_false (fun z => d2 (by omega))]
                · rw [decide_eq_false d1, if_neg Bool.false_ne_true]
                  exact ⟨_, em, l1, Same.app hD sm, ea _ (decide_eq_false fun z => d1 z.1)⟩
            rintro Hm ⟨sm, em⟩
            rw [hlz, List.take_length] at em
            refine ⟨D, _, rfl, SqL.of em, ?_⟩
            rw [List.all_map]
            have snm := sn.trans sm
            refine ⟨_, rfl, ?_⟩
            have q9 : membersB (js.length : Int) n (some os) = ascB (js.length : Int) os 0 := by show (decide _ && _) = _; rw [decide_eq_true c2, Bool.true_and]
            rw [show (id ∘ fun o => inRg o 0 ((js.length : Int) - 1)) = fun o => inRg o 0 ((js.length : Int) - 1) from rfl]
            cases c3 : os.all fun o => inRg o 0 ((js.length : Int) - 1) with
            | false => exact iteT (no (by rw [q9]; exact ascB_out70 (by decide) c3) Hm snm)
            | true =>
              refine iteF ?_
              obtain ⟨ks, eo, hks⟩ := ints_rg70 c3
              have eo2 : os = (ks.map fun u : Nat => (u : Int)).map some := by rw [eo, List.map_map]; rfl
              have ez : zs = (ks.map fun u : Nat => (u : Int)).map V.int := things_ints70 (by rw [hlz, eo2]) (fun i x o h1 h2 => hz i x o h1 (by rw [eo2]; exact h2))
              have lks : ks.length ≤ 6 := by rw [eo, List.length_map] at c2; omega
              have hZm := sameT sm hZn
              rw [ez] at hZm
              refine ⟨_, rfl, _, rfl, p, us, (i : Int), .ref p2, rfl, rfl, sameT sm hTn, atI_nat hui, p2, _, rfl, .inr hZm, fun q1 k1 => ?_⟩
              have s1 := same_new (o := .lst ((ks.map fun u : Nat => (u : Int)).map V.int)) k1
              refine ⟨_, rfl, _, rfl, p, us, (i : Int), .ref p2, rfl, rfl, sameT (sm.trans s1) hTn, atI_nat hui, p2, ks.map fun u : Nat => (u : Int), rfl, .inr (sameT s1 hZm), by rw [List.length_map]; omega, fun ps n9 hn9 hps => ?_⟩
              have s2 := same_new (o := SetO w ps (fun k => decide (k ∈ ks.map fun u : Nat => (u : Int))) n9) hps
              refine ⟨ps, _, n9, rfl, upd_same, hn9, fun fs p5 asc mem lf hp5 => ?_⟩
              have s3 := same_new (o := .lst (fs.map V.int)) hp5
              refine ⟨.list ((ks.map fun u : Nat => (u : Int)).map PyData.int), .list (fs.map PyData.int), .lst (SqL.of (s3 _ _ (s2 _ _ upd_same))) (.ints _), .lst (SqL.of upd_same) (.ints _), shaped_intL _, shaped_intL _, _, rfl, ?_⟩
              have smx := snm.trans (s1.trans (s2.trans s3))
              have s5x := sm.trans (s1.trans (s2.trans s3))
              revert smx s5x
              generalize upd _ p5 (.lst (fs.map V.int)) = H5
              intro smx s5x
              clear s1 s2 s3 k1 hps hp5 hZm
              have ev : PyData.eqv (.list ((ks.map fun u : Nat => (u : Int)).map PyData.int)) (.list (fs.map PyData.int)) = decide ((ks.map fun u : Nat => (u : Int)) = fs) := eqv_ints _ _
              rw [ev]
              by_cases c4 : (ks.map fun u : Nat => (u : Int)) = fs
              · rw [decide_eq_true c4]
                refine iteF ?_
                have asc2 : (ks.map fun u : Nat => (u : Int)).Pairwise (· < ·) := by rw [c4]; exact asc
                have asc3 : ks.Pairwise (· < ·) := (List.pairwise_map.mp asc2).imp fun {a b} z => by omega
                have hZ5 := sameT smx hZ
                rw [ez] at hZ5
                have lt9 : ∀ u ∈ ks, u < had.length := fun u hu => by have := hks u hu; omega
                have epl := plus_asc70 asc3 lt9
                refine ⟨_, rfl, _, rfl, _, rfl, p, us, (i : Int), .ref p2, rfl, rfl, sameT smx hT, atI_nat hui, ph, p2, had, _, rfl, sameT s5x hh, hZ5, by omega, fun p6 H6 hp6 s6 e6 => ?_⟩
                dsimp only [List.set]
                refine ⟨_, rfl, _, rfl, _, rfl, _, _, rfl, rfl, a, p6, xs, js, plusR had (ks.map fun u : Nat => (u : Int)), (i : Int) + 1, rfl, (smx.trans s6).seq hS, hA.mono (smx.trans s6), SqT.of e6, gp, l6, by unfold plusR; rw [List.length_map, List.length_range]; exact lh, fun H7 s7 => ⟨_, rfl, ?_⟩⟩
                have sm7 := smx.trans (s6.trans s7)
                have eg2 : keepsGo js cs rs 0 (List.replicate js.length 0) = (keptAll js ((i : Int) + 1) (plusR had (ks.map fun u : Nat => (u : Int))) && keepsGo js cs (rs.drop (i + 1)) (i + 1) (plusR had (ks.map fun u : Nat => (u : Int)))) := by
                  rw [eg, q9, eo2, (ascB_iff70 _ _).mpr ⟨fun m hm => by
                    obtain ⟨u, hu, rfl⟩ := List.mem_map.mp hm
                    exact ⟨by omega, hks u hu⟩, asc2⟩, Bool.true_and]
                  show (keptAll js ((i : Int) + 1) (incAll had ((ks.map fun u : Nat => (u : Int)).map some)) && keepsGo js cs (rs.drop (i + 1)) (i + 1) (incAll had ((ks.map fun u : Nat => (u : Int)).map some))) = _
                  rw [List.map_map, show (some ∘ fun u : Nat => (u : Int)) = fun u : Nat => some (u : Int) from rfl, epl]
                rw [← eg, eg2] at q
                cases e9 : keptAll js ((i : Int) + 1) (plusR had (ks.map fun u : Nat => (u : Int))) with
                | false =>
                  rw [e9] at q
                  exact iteT (q H7 sm7)
                | true =>
                  refine iteF ⟨sm7, p6, _, _, _, SqT.of (s7 _ _ e6), by unfold plusR; rw [List.length_map, List.length_range]; exact lh, ?_, rfl⟩
                  rw [eg2, e9, Bool.true_and]
              · rw [decide_eq_false c4]
                refine iteT (no ?_ H5 smx)
                rw [q9]
                cases e : ascB (js.length : Int) os 0 with
                | false => rfl
                | true =>
                  rw [eo2] at e
                  exact absurd (asc_eq58 ((ascB_iff70 _ _).mp e).2 asc fun k => by rw [mem k]; exact decide_eq_true_iff).symm c4
          · rw [decide_eq_true (show n < ((zs.length : Nat) : Int) by omega)]
            exact iteT (no (by show (decide _ && _) = false; rw [decide_eq_false c2, Bool.false_and]) Hn sn)
      · rintro σ Hn ⟨sn, ph, had, v4, v5, hh, lh, ek, rfl⟩
        rw [List.drop_of_length_le (by omega)] at ek
        have := q Hn sn
        have kb : keepsB js cs (some rs) = keepsGo js cs rs 0 (List.replicate js.length 0) := by
          show (decide (rs.length = cs.length) && _) = _
          rw [decide_eq_true c1, Bool.true_and]
        rw [kb, ← ek] at this
        exact this
    · rw [decide_eq_false (show ¬ V.int ((us.length : Nat) : Int) = V.int (((cs.map V.int).length : Nat) : Int) from fun z => c1 (by injection z with z; omega))]
      have kb : keepsB js cs (some rs) = false := by
        show (decide (rs.length = cs.length) && _) = _
        rw [decide_eq_false c1, Bool.false_and]
      rw [kb] at q
      exact iteT (q H (Same.refl _))
end
end Ts
namespace Ts
open PySem PySem.Spec PyProof.Rows L2 L2H LamX
section
variable {P : Program} {w : World} {K : PySem.W.Frag} {mg : Str → Option Value} {base : Heap}
theorem has_right67 {spA : Sp} (D : DefAt K mg "_law_right" s__law_right) (B : Blt0 mg) (hSF : SayFits K spA) (hSO : SayOver K spA)
    (h_accepts : Has P w K mg base 10 "accepts" ["claim", "certificate"] spA) (h__law_said : HasG P w K mg base 21 "_law_said" ["_law_asked", "_law_proof_here", "_law_due"] (spSaid spA))
    (h__law_take : Has P w K mg base 1 "_law_take" ["_law_bag_here", "_law_many"] spTake) (h__law_of : Has P w K mg base 2 "_law_of" ["_law_bag_here", "_law_things"] spOne) (h__law_sum : Has P w K mg base 2 "_law_sum" ["_law_shares_here"] (spSumB K)) (h__law_circle : Has P w K mg base 2 "_law_circle" ["_law_shares_here"] (spCircle67 K))
    (h__law_sheet : Has P w K mg base 1 "_law_sheet" ["_law_many", "_law_works_here"] (spPage K)) (h__law_world : Has P w K mg base 4 "_law_world" ["_law_bag_here", "_law_menu", "_law_most"] (spWorld K))
    (h__law_play : Has P w K mg base 5 "_law_play" ["_law_many", "_law_works_here", "_law_word", "_law_lates_here", "_law_ticks_here"] (spPlay67 K)) (h__law_any_row : Has P w K mg base 3 "_law_any_row" ["_law_bag_here", "_law_many", "_law_shares_here", "_law_counts_here"] (spAnyRow70 K))
    (h__law_bent_row : Has P w K mg base 3 "_law_bent_row" ["_law_bag_here", "_law_row", "_law_size"] (spBentRow70 K)) (h__law_is_row : Has P w K mg base 2 "_law_is_row" ["_law_shares_here", "_law_counts_here", "_law_thing"] (spIsRow67 K)) :
    HasG P w K mg base 22 "_law_right" ["_law_bag_here"] spRight70 := by
  refine D.hasG (fun _ _ _ _ _ _ us hl => match us, hl with | [_], _ => rfl) fun f fd F => fun_g F sc__law_right (fun vs H Q E h => ?_) (fun cdv A outer s H vs Q hg0 hr h => ?_)
  · obtain ⟨b, rfl, _⟩ := h; rfl
  obtain ⟨b, rfl, hB, q⟩ := h
  have hg : (A.deeper (envOfC "_law_right" (defScope s__law_right) s.heap.objs.size f cdv)).guards = some [] := hg0
  refine ⟨_, (pss_cons (ps_for PassesOwn.never rfl (pi_range1 (by rfl) B.zrange (pa_cons pe_int pa_nil)) (pg_name (i := 1) sc__law_right.nd rfl (.inl rfl)) (pss_cons (ps_asg (pe_h h__law_world (hr.mono (by decide)) (pa_cons (pv 0) (pa_cons (pe_lst (pa_cons pe_int (pa_cons pe_int (pa_cons pe_int (pa_cons pe_int (pa_cons pe_int pa_nil)))))) (pa_cons pe_int pa_nil)))) (pg_tup rfl (pgs_cons (pg_name (i := 2) sc__law_right.nd rfl (.inl rfl)) (pgs_cons (pg_name (i := 3) sc__law_right.nd rfl (.inl rfl)) pgs_nil))))
      (pss_cons (ps_par (i := 6) (j := 7) (by rfl) sc__law_right.nd rfl rfl (by decide) rfl rfl (pa_cons (pe_h h__law_sheet (hr.mono (by decide)) (pa_cons (pv 2) (pa_cons (pv 3) pa_nil))) (pa_cons (pe_lc (own := [("_law_tag", 4), ("_law_share_here", 5)]) rfl sc__law_right.nd (pi_list (pv 3)) (blkOk_by (N := ["_law_bag_here", "_law_turn", "_law_many", "_law_works_here", "_law_tag", "_law_share_here", "_law_sheet_here", "_law_shares_here", "_law_circle_here", "_law_total_here", "_law_over", "_law_again", "_law_word", "_law_row", "_law_proof_here"]) (sc := defScope s__law_right) (own := [("_law_tag", 4), ("_law_share_here", 5)]) (by decide +kernel)) (fun _ _ _ _ _ => (pg_tupK (K := K) (n := 2) rfl rfl (pgs_cons (pg_name (i := 4) sc__law_right.nd rfl (.inl rfl) (.inr rfl)) (pgs_cons (pg_name (i := 5) sc__law_right.nd rfl (.inl rfl) (.inr rfl)) pgs_nil)))) (fun _ _ _ _ _ => pts_nil) (fun _ _ _ _ _ => (pv 5))) pa_nil)) (by rfl))
      (pss_cons (ps_par (i := 8) (j := 9) (by rfl) sc__law_right.nd rfl rfl (by decide) rfl rfl (pa_cons (pe_h h__law_circle (hr.mono (by decide)) (pa_cons (pv 7) pa_nil)) (pa_cons (pe_h h__law_sum (hr.mono (by decide)) (pa_cons (pv 7) pa_nil)) pa_nil)) (by rfl))
      (pss_cons (ps_set (i := 10) sc__law_right.nd rfl (.inl rfl) (pe_cmpR op_gt (pe_ix ix_tup (pv 9) pe_int (fun _ _ => rfl)) (pe_op op_mul (pv 2) (pe_ix ix_tup (pv 9) pe_int (fun _ _ => rfl))) (nomark _)))
      (pss_cons (ps_for PassesOwn.never rfl (pi_range1 (by rfl) B.zrange (pa_cons pe_int pa_nil)) (pg_name (i := 11) sc__law_right.nd rfl (.inl rfl)) (C8.pss_cut (ps_set (i := 12) sc__law_right.nd rfl (.inl rfl) (pe_h h__law_of (hr.mono (by decide)) (pa_cons (pv 0) (pa_cons (pe_lst (pa_cons pe_str (pa_cons pe_str (pa_cons pe_str (pa_cons pe_str pa_nil))))) pa_nil))))
      (C8.pss_cut (ps_set (i := 13) sc__law_right.nd rfl (.inl rfl) (pe_ix ix_tup (pe_h h__law_play (hr.mono (by decide)) (pa_cons (pv 2) (pa_cons (pv 3) (pa_cons (pv 12) (pa_cons (pe_tup pa_nil) (pa_cons (pv 8) pa_nil)))))) pe_int (fun _ _ => rfl)))
      (C8.pss_cut (ps_if (pt_cmpR op_gt (pv 11) pe_int (nomark _)) (pss_one (ps_set (i := 13) sc__law_right.nd rfl (.inl rfl) (pe_h h__law_any_row (hr.mono (by decide)) (pa_cons (pv 0) (pa_cons (pv 2) (pa_cons (pv 7) (pa_cons (pe_op op_rep (pe_lst (pa_cons (pv 2) pa_nil)) (pv 8)) pa_nil))))))) pss_nil)
      (C8.pss_cut (ps_set (i := 14) sc__law_right.nd rfl (.inl rfl) (pe_ifExp (pt_cmpR op_eq (pv 11) pe_int (nomark _)) (pv 13) (pe_h h__law_bent_row (hr.mono (by decide)) (pa_cons (pv 0) (pa_cons (pv 13) (pa_cons (pe_callB call_len_seq (by rfl) B.zlen (by decide +kernel) (pa_cons (pv 3) pa_nil)) pa_nil))))))
      (pss_one (ps_if (pt_not (pt_val (pe_g h__law_said hg (hr.mono (by decide)) (pa_cons (pe_tup (pa_cons pe_str (pa_cons (pv 6) pa_nil))) (pa_cons (pv 14) (pa_cons (pe_h h__law_is_row (hr.mono (by decide)) (pa_cons (pv 7) (pa_cons (pe_op op_rep (pe_lst (pa_cons (pv 2) pa_nil)) (pv 8)) (pa_cons (pv 14) pa_nil)))) pa_nil)))))) (pss_one (ps_ret pe_bl)) pss_nil)))))))
      (pss_one (ps_for PassesOwn.never rfl (pi_list (pe_lst (pa_cons (pe_tup pa_nil) (pa_cons (pe_lst pa_nil) (pa_cons pe_non (pa_cons (pe_tup (pa_cons (pe_tup pa_nil) pa_nil)) (pa_cons (pv 13) pa_nil))))))) (pg_name (i := 14) sc__law_right.nd rfl (.inl rfl)) (pss_one (ps_if (pt_not (pt_val (pe_g h__law_said hg (hr.mono (by decide)) (pa_cons (pe_tup (pa_cons pe_str (pa_cons (pv 6) pa_nil))) (pa_cons (pv 14) (pa_cons (pe_and (pv 10) (pe_one (pe_cmpR op_eq (pe_callB (reprVK (K := K) rfl hg (hu100 hr)) (by rfl) B.zrepr (by decide +kernel) (pa_cons (pv 14) pa_nil)) pe_str (nomark _)))) pa_nil)))))) (pss_one (ps_ret pe_bl)) pss_nil))))))))))
      (pss_cons (ps_set (i := 6) sc__law_right.nd rfl (.inl rfl) (pe_h h__law_sheet (hr.mono (by decide)) (pa_cons pe_int (pa_cons (pe_lst (pa_cons (pe_tup (pa_cons pe_str (pa_cons (pe_tup (pa_cons pe_int (pa_cons pe_int pa_nil))) pa_nil))) (pa_cons (pe_tup (pa_cons pe_str (pa_cons (pe_tup (pa_cons pe_int (pa_cons pe_int pa_nil))) pa_nil))) (pa_cons (pe_tup (pa_cons pe_str (pa_cons (pe_tup (pa_cons pe_int (pa_cons pe_int pa_nil))) pa_nil))) pa_nil)))) pa_nil))))
      (pss_one (ps_ret (pe_and (pe_cmpR op_is_bl (pe_h h_accepts (hr.mono (by decide)) (pa_cons (pe_tup (pa_cons pe_str (pa_cons (pv 6) pa_nil))) (pa_cons (pe_tup pa_nil) pa_nil))) pe_bl (nomark _)) (pe_one (pe_cmpR op_is_bl (pe_h h_accepts (hr.mono (by decide)) (pa_cons (pe_tup (pa_cons pe_str (pa_cons (pv 6) pa_nil))) (pa_cons (pe_op (op_repL60 (K := K) rfl) (pe_tup (pa_cons (pe_tup pa_nil) pa_nil)) pe_int) pa_nil))) pe_bl (nomark _)))))))), ?_⟩
  refine ⟨4, rfl, by decide, by decide, for_range (lo := 0) (n := 4) (fun i σ Hn => But b H Hn ∧ Bag Hn b ∧ ∃ v1 v2 v3 v4 v5 v6 v7 v8 v9 v10 v11 v12 v13 v14, σ = [some (.ref b), v1, v2, v3, v4, v5, v6, v7, v8, v9, v10, v11, v12, v13, v14])
    ⟨fun _ _ _ z => z, hB, _, _, _, _, _, _, _, _, _, _, _, _, _, _, rfl⟩ ?_ ?_⟩
  · rintro i σ H0 hi ⟨b0, B0, v1, v2, v3, v4, v5, v6, v7, v8, v9, v10, v11, v12, v13, v14, rfl⟩
    dsimp only [List.set]
    -- the world
    refine ⟨_, rfl, by show 5 ≤ sizeLine; decide, fun ml hml => ?_⟩
    have sm : Same H0 (upd H0 ml (.lst [.int 1, .int 2, .int 3, .int 4, .int 6])) := same_new hml
    have em2 : (upd H0 ml (.lst [.int 1, .int 2, .int 3, .int 4, .int 6])) ml = some (.lst (([1, 2, 3, 4, 6] : List Nat).map fun m : Nat => V.int (m : Int))) := upd_same
    have nml := B0.off hml
    revert sm em2
    generalize upd H0 ml (.lst [.int 1, .int 2, .int 3, .int 4, .int 6]) = H1
    intro sm em2
    refine ⟨b, ml, [1, 2, 3, 4, 6], 4, rfl, B0.on sm, nml, em2, by decide, by decide, by decide, by decide, by decide, fun n js r p xs H2 n1 n6 G l0 l4 hms hr hp b2 B2 er ep hD => ?_⟩
    have l6 : js.length ≤ 6 := by omega
    have sp60 : spanN js ≤ 60 := Nat.le_of_dvd (by decide) (span_of_all (k := 60) fun j hj => by
      obtain ⟨m9, hm1, hm2⟩ := hms j hj
      have g := G.part j hj
      have le6 : j.2.2 ≤ 6 := Nat.le_trans hm2 ((by decide : ∀ m ∈ ([1, 2, 3, 4, 6] : List Nat), m ≤ 6) m9 hm1)
      have g1 : 1 ≤ j.2.2 := by obtain ⟨a1, a2, a3, a4⟩ := g; omega
      exact (by decide : ∀ m, m < 7 → 1 ≤ m → m ∣ 60) j.2.2 (by omega) g1)
    have sp : spanN js ≤ 720 := by omega
    refine ⟨r, _, rfl, SqT.of er, rfl, _, _, rfl, _, _, rfl, rfl, ?_⟩
    dsimp only [List.set]
    have hp2 : SqL K H2 p xs := SqL.of ep
    refine ⟨_, rfl, _, rfl, n, p, js, rfl, by omega, by omega, G.mono (by decide), .lst hp2 (hD.mono hid_sub), fun H3 s3 => ?_⟩
    have lxs : xs.length = js.length := by rw [hD.length, List.length_map]
    have B3 := B2.on s3
    refine ⟨_, rfl, p, rfl, ⟨_, s3.seq hp2⟩, fun S hS => ?_⟩
    have nS := B3.off hS
    refine lc_list (K := K) (a := p) (xs := xs) (fun i Hm => Same H3 Hm ∧ ∃ ys, Hm S = some (.lst ys) ∧ DpAll K (hid b H3) ys ((sharesD js).take i)) ⟨same_new hS, [], upd_same, by rw [List.take_zero]; exact .nil⟩ (fun _ _ _ z => z.1.seq (s3.seq hp2)) ?_ ?_
    · rintro k x Hm hx ⟨sx, ys, ex, dy⟩
      obtain ⟨j, a9, q9, hj, rfl, ha9, hq9⟩ := job_at (hD.mono (hid_same (b := b) s3)) hx
      have kl := (List.getElem?_eq_some_iff.mp hj).1
      have lys : ys.length ≤ 6 := by rw [dy.length, List.length_take]; unfold sharesD; rw [List.length_map]; omega
      refine ⟨a9, _, rfl, sameT sx (sameT hid_sub ha9), rfl, _, _, rfl, _, _, rfl, rfl, rfl, yesIf ⟨_, rfl, ys, ex, small1000 (by omega), Same.app hS sx, ys ++ [.ref q9], upd_same, ?_⟩⟩
      have e9 : (sharesD js).take (k + 1) = (sharesD js).take k ++ [partD j.2.1 j.2.2] := by
        rw [List.take_add_one, show (sharesD js)[k]? = some (partD j.2.1 j.2.2) by unfold sharesD; rw [List.getElem?_map, hj]; rfl]; rfl
      rw [e9]
      exact dy.append (.cons (.tup hq9 (.cons (.int _) (.cons (.int _) .nil))) .nil)
    rintro Hm ⟨sx, ys, ex, dy⟩
    rw [lxs, List.take_of_length_le (by unfold sharesD; rw [List.length_map]; exact Nat.le_refl _)] at dy
    refine ⟨_, _, rfl, ?_⟩
    have lys : ys.length = js.length := by rw [dy.length]; unfold sharesD; rw [List.length_map]
    have s23 := s3.trans sx
    have Bm := B2.on s23
    obtain ⟨xb, yb, zb, ebm⟩ := id Bm.bas
    have hSm : SqL K (hid b Hm) S ys := SqL.of ((hid_ne nS).trans ex)
    have dym : DpAll K (hid b Hm) ys (sharesD js) := dy.mono (hid_same sx)
    have b0m' : But b H Hm := (b0.trans' sm).trans (b2.trans' s23)
    have hDm := hD.mono (hid_same (b := b) s23)
    have ng : ∀ {Hx : Hp}, But b Hm Hx → SqL K (hid b Hx) S ys ∧ DpAll K (hid b Hx) ys (sharesD js) := fun bx => ⟨bx.hid.seq hSm, dym.mono bx.hid⟩
    have hpm : SqL K (hid b Hm) p xs := by
      refine SqL.of ((hid_ne fun z => ?_).trans (s23 _ _ ep))
      rw [z] at ep
      obtain ⟨xe, ye, ze, eb2⟩ := id B2.bas
      rw [ep] at eb2
      obtain rfl := HO.lst.inj (Option.some.inj eb2)
      obtain ⟨j0, r0⟩ := List.exists_mem_of_length_pos l0
      obtain ⟨k0, hk0⟩ := List.mem_iff_getElem?.mp r0
      obtain ⟨d0, hd0, hv0⟩ := hD.get (i := 0) (show ([V.int xe, .int ye, .int ze])[0]? = some (V.int xe) from rfl)
      rw [List.getElem?_map] at hd0
      cases ej : js[0]? with
      | none => rw [ej] at hd0; cases hd0
      | some j => rw [ej] at hd0; cases hd0; cases hv0
    clear s3 sx hS ex dy ep hp2 hp hr er B3 B2 b2 sm em2 nml hml nS
    dsimp only [List.set]
    refine ⟨_, rfl, S, ys, js, rfl, hid_sub.seq hSm, dym.mono hid_sub, G, l6, _, rfl, S, js, rfl, .lst (hid_sub.seq hSm) (dym.mono hid_sub), G, l6, fun r9 H9 hr9 s9 er9 => ⟨_, _, rfl, ?_⟩⟩
    have B9 := Bm.on s9
    obtain ⟨xe, ye, ze, eb9⟩ := id B9.bas
    have sp0 := span_pos G
    dsimp only [List.set]
    refine ⟨_, rfl, r9, _, 0, .int (totTop js : Int), rfl, rfl, SqT.of er9, rfl, _, rfl, _, rfl, r9, _, 1, .int (totBot js : Int), rfl, rfl, SqT.of er9, rfl, _, _, rfl, rfl, .inl ⟨by omega, by omega⟩, _, _, rfl, rfl, ?_⟩
    have eov : decide ((n : Int) * (totBot js : Int) < (totTop js : Int)) = !fitsN n js := by
      unfold fitsN
      by_cases c : (totTop js : Int) ≤ (n : Int) * (totBot js : Int)
      · rw [decide_eq_true c, decide_eq_false (by omega)]; rfl
      · rw [decide_eq_false c, decide_eq_true (by omega)]; rfl
    dsimp only [List.set]
    rw [eov]
    refine ⟨5, rfl, by decide, by decide, for_range (lo := 0) (n := 5) (fun k σ Hn => But b Hm Hn ∧ Bag Hn b ∧ ∃ v4 v5 v11 v12 v13 v14, (4 ≤ k → ∃ (pr : Addr) (us : List V) (rows : List (List Int)), v13 = some (.ref pr) ∧ SqT K (hid b Hn) pr us ∧ DpAll K (hid b Hn) us (rows.map rowD) ∧ rows.length ≤ 60 ∧ ∀ r ∈ rows, r ∈ setsL js.length 6) ∧
        σ = [some (.ref b), some (.int (0 + (i : Int))), some (.int (n : Int)), some (.ref p), v4, v5, some (.str (pageS n js)), some (.ref S), some (.int (spanN js : Int)), some (.ref r9), some (.bl (!fitsN n js)), v11, v12, v13, v14])
      ⟨But.of_same s9, B9, _, _, _, _, _, _, (fun z => absurd z (by decide)), rfl⟩ ?_ ?_⟩
    · rintro k σ H3 hk ⟨b3, B3, w4, w5, w11, w12, w13, w14, _, rfl⟩
      dsimp only [List.set]
      have stt : ∀ (v12 v13 v14 : Option V), [some (V.ref b), some (.int (0 + (i : Int))), some (.int (n : Int)), some (.ref p), w4, w5, some (.str (pageS n js)), some (.ref S), some (.int (spanN js : Int)), some (.ref r9), some (.bl (!fitsN n js)), some (.int (0 + (k : Int))), v12, v13, v14] = [some (V.ref b), some (.int (0 + (i : Int))), some (.int (n : Int)), some (.ref p), w4, w5, some (.str (pageS n js)), some (.ref S), some (.int (spanN js : Int)), some (.ref r9), some (.bl (!fitsN n js)), some (.int (0 + (k : Int))), v12, v13, v14] := fun _ _ _ => rfl
      -- the word
      refine ⟨fun σ' H' => But b Hm H' ∧ Bag H' b ∧ ∃ x : Str, σ' = [some (V.ref b), some (.int (0 + (i : Int))), some (.int (n : Int)), some (.ref p), w4, w5, some (.str (pageS n js)), some (.ref S), some (.int (spanN js : Int)), some (.ref r9), some (.bl (!fitsN n js)), some (.int (0 + (k : Int))), some (.str x), w13, w14], ?_, ?_⟩
      · refine ⟨_, rfl, by show 4 ≤ sizeLine; decide, fun W hW => ?_⟩
        have sW := same_new (o := .lst [V.str "nearest", .str "overlap", .str "keen", .str "behind"]) hW
        refine ⟨b, W, _, rfl, B3.on sW, B3.off hW, upd_same, by show 0 < 4; decide, by show 4 ≤ 1000; decide, fun k2 x2 H4 hx2 b4 B4 => ?_⟩
        have m2 := List.mem_of_getElem? hx2
        simp only [List.mem_cons, List.not_mem_nil, or_false] at m2
        have bb := (b3.trans' sW).trans b4
        rcases m2 with rfl | rfl | rfl | rfl <;> exact ⟨bb, B4, _, rfl⟩
      clear b3 B3
      rintro σ H3 ⟨b3, B3, x, rfl⟩
      -- a play
      refine ⟨fun σ' H' => But b Hm H' ∧ Bag H' b ∧ ∃ (pr : Addr) (us : List V) (rows : List (List Int)), SqT K (hid b H') pr us ∧ DpAll K (hid b H') us (rows.map rowD) ∧ rows.length ≤ 60 ∧ (∀ r ∈ rows, r.length ≤ 6) ∧ σ' = [some (V.ref b), some (.int (0 + (i : Int))), some (.int (n : Int)), some (.ref p), w4, w5, some (.str (pageS n js)), some (.ref S), some (.int (spanN js : Int)), some (.ref r9), some (.bl (!fitsN n js)), some (.int (0 + (k : Int))), some (.str x), some (.ref pr), w14], ?_, ?_⟩
      · refine ⟨_, rfl, _, rfl, _, rfl, by show 0 ≤ sizeLine; decide, fun c0 hc0 => ?_⟩
        have sc := same_new (o := .tup ([] : List V)) hc0
        have b4 := b3.trans' sc
        refine ⟨_, rfl, n, p, c0, x, xs, js, spanN js, rfl, hid_sub.seq (b4.hid.seq hpm), (hDm.mono b4.hid).mono hid_sub, G, l0, l6, n6, SqT.of upd_same, sp, fun r2 p2 v2 us2 rows2 H5 s5 S5 T5 D5 l5 r5 => ?_⟩
        have B5 := (B3.on sc).on s5
        obtain ⟨x5, y5, z5, eb5⟩ := id B5.bas
        refine ⟨r2, _, 0, .ref p2, rfl, rfl, S5, rfl, ?_⟩
        exact ⟨b4.trans' s5, B5, p2, us2, rows2, seqT_hide eb5 T5, rows_off eb5 D5, by omega, r5, rfl⟩
      clear b3 B3
      rintro σ H3 ⟨b3, B3, pr, us, rows, hpr, hdr, lr, hr6, rfl⟩
      -- drawn ticks
      refine ⟨fun σ' H' => But b Hm H' ∧ Bag H' b ∧ ∃ (pr : Addr) (us : List V) (rows : List (List Int)), SqT K (hid b H') pr us ∧ DpAll K (hid b H') us (rows.map rowD) ∧ rows.length ≤ 60 ∧ (∀ r ∈ rows, r.length ≤ 6) ∧ (3 ≤ k → ∀ r ∈ rows, r ∈ setsL js.length 6) ∧ σ' = [some (V.ref b), some (.int (0 + (i : Int))), some (.int (n : Int)), some (.ref p), w4, w5, some (.str (pageS n js)), some (.ref S), some (.int (spanN js : Int)), some (.ref r9), some (.bl (!fitsN n js)), some (.int (0 + (k : Int))), some (.str x), some (.ref pr), w14], ?_, ?_⟩
      · refine ⟨_, rfl, _, _, rfl, rfl, _, rfl, ite2 (fun c => ?_) (fun c => ⟨b3, B3, pr, us, rows, hpr, hdr, lr, hr6, (fun z => absurd (decide_eq_true (by omega)) c), rfl⟩)⟩
        refine ⟨_, rfl, _, rfl, _, rfl, _, rfl, by show 1 ≤ sizeLine; decide, fun c1 hc1 => ?_⟩
        have sc1 := same_new (o := .lst [V.int (n : Int)]) hc1
        refine ⟨_, rfl, c1, (spanN js : Int), [.int (n : Int)], rfl, rfl, upd_same, by omega, by omega, by show 1 * ((spanN js : Nat) : Int).toNat ≤ sizeLine; rw [Int.toNat_natCast, Nat.one_mul]; exact Nat.le_of_lt (small1000 (by omega)), fun c2 hc2 => ?_⟩
        have sc2 := same_new (o := .lst (List.replicate ((spanN js : Nat) : Int).toNat [V.int (n : Int)]).flatten) hc2
        have s4 := sc1.trans sc2
        have n2 := (B3.on sc1).off hc2
        obtain ⟨g1, g2⟩ := ng (b3.trans' s4)
        have ecs : (List.replicate ((spanN js : Nat) : Int).toNat [V.int (n : Int)]).flatten = natV (List.replicate (spanN js) n) := by unfold natV; rw [Int.toNat_natCast, List.flatten_replicate_singleton, List.map_replicate]
        refine ⟨b, S, c2, (n : Int), ys, js, List.replicate (spanN js) n, rfl, B3.on s4, g1, g2, SqL.of ((hid_ne n2).trans (upd_same.trans (by rw [ecs]))), G.part, l0, l6, by rw [List.length_replicate]; exact sp60, fun m hm => by rw [List.eq_of_mem_replicate hm]; exact n6, fun pr2 us2 rows2 H7 b7 B7 hp7 hd7 lr7 hr7 _ => ?_⟩
        refine ⟨(b3.trans' s4).trans b7, B7, pr2, us2, rows2, hp7, hd7, by rw [List.length_replicate] at lr7; omega, fun r hr => ?_, fun _ => hr7, rfl⟩
        exact Nat.le_trans (subsL_each _ _ (List.mem_filter.mp (hr7 r hr)).1) l6
      clear b3 B3 hpr hdr lr hr6
      rintro σ H3 ⟨b3, B3, pr0, us, rows, hpr, hdr, lr, hr6, hsr, rfl⟩
      have hsl : ∀ cs : List V, 1 * ((spanN js : Nat) : Int).toNat ≤ sizeLine := fun _ => by rw [Int.toNat_natCast, Nat.one_mul]; exact Nat.le_of_lt (small1000 (by omega))
      -- perhaps bent ticks
      refine ⟨fun σ' H' => But b Hm H' ∧ Bag H' b ∧ ∃ (v : V) (t : TabT), TabP K (hid b H') v t ∧ (4 ≤ k + 1 → ∃ (pr : Addr) (us : List V) (rows : List (List Int)), some (V.ref pr0) = some (.ref pr) ∧ SqT K (hid b H') pr us ∧ DpAll K (hid b H') us (rows.map rowD) ∧ rows.length ≤ 60 ∧ ∀ r ∈ rows, r ∈ setsL js.length 6) ∧ σ' = [some (V.ref b), some (.int (0 + (i : Int))), some (.int (n : Int)), some (.ref p), w4, w5, some (.str (pageS n js)), some (.ref S), some (.int (spanN js : Int)), some (.ref r9), some (.bl (!fitsN n js)), some (.int (0 + (k : Int))), some (.str x), some (.ref pr0), some v], ?_, ?_⟩
      · refine ⟨_, rfl, rfl, _, rfl, ite2 (fun c => ?_) (fun c => ?_)⟩
        · obtain ⟨t, ht⟩ := Tk70.tab (Tk70.rows hdr) hpr
          exact ⟨_, rfl, b3, B3, _, t, ht, fun z => ⟨pr0, us, rows, rfl, hpr, hdr, lr, hsr (by omega)⟩, rfl⟩
        · refine ⟨_, rfl, _, rfl, _, rfl, p, xs, rfl, .inl (hid_sub.seq (b3.hid.seq hpm)), b, pr0, us, rows, js.length, by rw [lxs]; rfl, B3, hpr, hdr, lr, hr6, l0, l6, fun v t H8 b8 B8 ht => ⟨b3.trans b8, B8, v, t, ht, fun z => ⟨pr0, us, rows, rfl, sameT b8.hid hpr, hdr.mono b8.hid, lr, hsr (by omega)⟩, rfl⟩⟩
      clear b3 B3 hpr hdr lr hr6 hsr
      rintro σ H4 ⟨b4, B4, vp, tp, hvp, hrow, rfl⟩
      -- what is due
      refine ⟨_, rfl, by show 2 ≤ sizeLine; decide, fun q9 hq9 => ?_⟩
      have sq := same_new (o := .tup [V.str "fits", .str (pageS n js)]) hq9
      refine ⟨_, rfl, _, rfl, _, rfl, by show 1 ≤ sizeLine; decide, fun c1 hc1 => ?_⟩
      have sc1 := same_new (o := .lst [V.int (n : Int)]) hc1
      refine ⟨_, rfl, c1, (spanN js : Int), [.int (n : Int)], rfl, rfl, upd_same, by omega, by omega, hsl [], fun c2 hc2 => ?_⟩
      have sc2 := same_new (o := .lst (List.replicate ((spanN js : Nat) : Int).toNat [V.int (n : Int)]).flatten) hc2
      have s4 := sq.trans (sc1.trans sc2)
      obtain ⟨g1, g2⟩ := ng (b4.trans' s4)
      have ecs : (List.replicate ((spanN js : Nat) : Int).toNat [V.int (n : Int)]).flatten = (List.replicate (spanN js) (n : Int)).map V.int := by rw [Int.toNat_natCast, List.flatten_replicate_singleton, List.map_replicate]
      have hvp4 := (hvp.mono hid_sub).mono s4
      have hq4 := (sc1.trans sc2) _ _ (show _ = some (HO.tup [V.str "fits", .str (pageS n js)]) from upd_same)
      refine ⟨_, rfl, S, c2, vp, ys, js, List.replicate (spanN js) (n : Int), tp, rfl, hid_sub.seq g1, g2.mono hid_sub, SqL.of (upd_same.trans (by rw [ecs])), G.part, l0, l6, by rw [List.length_replicate]; omega, fun m hm => by rw [List.eq_of_mem_replicate hm]; omega, hvp4, fun H5 s5 => ?_⟩
      have s45 := s4.trans s5
      refine ⟨.ref q9, vp, keepsB js (List.replicate (spanN js) (n : Int)) tp, rfl, ?_, fun H6 s6 => ?_⟩
      · exact hSF (SqT.of (s5 _ _ hq4)) n1 n6 G l0 l6 (hvp4.mono s5) (fun _ => rfl) (fun z => absurd z (by omega))
      · have sx := s45.trans s6
        refine ⟨_, rfl, iteF ⟨b4.trans' sx, B4.on sx, _, _, _, _, _, _, fun z => ?_, rfl⟩⟩
        obtain ⟨pr, us, rows, e9, h1, h2, h3, h4⟩ := hrow z
        exact ⟨pr, us, rows, e9, sameT (hid_same sx) h1, h2.mono (hid_same sx), h3, h4⟩
    · rintro σ H3 ⟨b3, B3, w4, w5, w11, w12, w13, w14, hrow, rfl⟩
      obtain ⟨pr, us, rows, rfl, hpr, hdr, lr, hrs⟩ := hrow (by decide)
      have hpr3 := sameT hid_sub hpr
      -- over
      refine ⟨by show 0 ≤ sizeLine; decide, fun p1 h1 => ⟨by show 0 ≤ sizeLine; decide, fun p2 h2 => ⟨by show 0 ≤ sizeLine; decide, fun p3 h3 => ⟨by show 1 ≤ sizeLine; decide, fun p4 h4 => ?_⟩⟩⟩⟩
      have y1 := same_new (o := .tup ([] : List V)) h1
      have y2 := same_new (o := .lst ([] : List V)) h2
      have y3 := same_new (o := .tup ([] : List V)) h3
      have y4 := same_new (o := .tup [V.ref p3]) h4
      refine ⟨_, rfl, by show 5 ≤ sizeLine; decide, fun L hL => ?_⟩
      have yL := same_new (o := .lst [V.ref p1, .ref p2, .non, .ref p4, .ref pr]) hL
      have e1 := (y2.trans (y3.trans (y4.trans yL))) p1 _ upd_same
      have e2 := (y3.trans (y4.trans yL)) p2 _ upd_same
      have e3 := (y4.trans yL) p3 _ upd_same
      have e4 := yL p4 _ upd_same
      have eL := new_at70 yL
      have s3 := y1.trans (y2.trans (y3.trans (y4.trans yL)))
      revert e1 e2 e3 e4 eL s3
      generalize upd _ L (.lst [V.ref p1, .ref p2, .non, .ref p4, .ref pr]) = H4
      intro e1 e2 e3 e4 eL s3
      clear y1 y2 y3 y4 yL h1 h2 h3 h4 hL
      have B4 := B3.on s3
      have hpr4 := sameT s3 hpr3
      have hdr4 := (hdr.mono hid_sub).mono s3
      have data : ∀ v ∈ [V.ref p1, .ref p2, .non, .ref p4, .ref pr], ∃ (em : Bool) (d : PyData), CertV K H4 v em ∧ Dp K H4 v d ∧ (d.showable = true ∧ d.hasDict = false ∧ d.depth < 60 ∧ d.shown.length ≤ sizeLine) ∧ decide (V.str d.shown = V.str ("()" : Str)) = em := by
        intro v hv
        simp only [List.mem_cons, List.not_mem_nil, or_false] at hv
        rcases hv with rfl | rfl | rfl | rfl | rfl
        · exact ⟨true, .tuple [], CertV.empty (SqT.of e1), .tup (SqT.of e1) .nil, ⟨rfl, rfl, by decide, Nat.le_of_lt (small1000 (by decide +kernel))⟩, by decide +kernel⟩
        · exact ⟨false, .list [], .inr ⟨"list", by decide, .base (.lst e2)⟩, .lst (SqL.of e2) .nil, ⟨rfl, rfl, by decide, Nat.le_of_lt (small1000 (by decide +kernel))⟩, by decide +kernel⟩
        · exact ⟨false, .none, .inr ⟨"NoneType", by decide, .base .non⟩, .non, ⟨rfl, rfl, by decide, Nat.le_of_lt (small1000 (by decide +kernel))⟩, by decide +kernel⟩
        · exact ⟨false, .tuple [.tuple []], .inl ⟨p4, _, rfl, SqT.of e4, by simp⟩, .tup (SqT.of e4) (.cons (.tup (SqT.of e3) .nil) .nil), ⟨rfl, rfl, by decide, Nat.le_of_lt (small1000 (by decide +kernel))⟩, by decide +kernel⟩
        · refine ⟨rows.isEmpty, .tuple (rows.map rowD), ?_, .tup hpr4 hdr4, (fine_rows (by omega) (fun r hr => Nat.le_trans (subsL_each _ _ (List.mem_filter.mp (hrs r hr)).1) l6) (fun r hr i hi => ?_)).fits (by decide) (by decide), shown_rows67⟩
          · have lu : us.length = rows.length := by rw [hdr4.length, List.length_map]
            cases rows with
            | nil =>
              have : us = [] := List.eq_nil_of_length_eq_zero lu
              subst this
              exact ⟨pr, rfl, hpr4⟩
            | cons r rs => exact .inl ⟨pr, us, rfl, hpr4, fun z => by rw [z] at lu; cases lu⟩
          · have := subs_in70 _ r (List.mem_filter.mp (hrs r hr)).1 i hi
            exact ⟨this.1, Int.lt_of_lt_of_le (show i < 6 by omega) (by decide +kernel)⟩
      refine ⟨L, rfl, ⟨_, SqL.of eL⟩, for_list (K := K) (a := L) (xs := [V.ref p1, .ref p2, .non, .ref p4, .ref pr]) (fun k σ Hn => Same H4 Hn ∧ ∃ v4 v5 v11 v12 v13 v14, σ = [some (.ref b), some (.int (0 + (i : Int))), some (.int (n : Int)), some (.ref p), v4, v5, some (.str (pageS n js)), some (.ref S), some (.int (spanN js : Int)), some (.ref r9), some (.bl (!fitsN n js)), v11, v12, v13, v14]) ⟨Same.refl _, _, _, _, _, _, _, rfl⟩ (fun _ _ _ _ z => SqL.of (z.1 _ _ eL)) ?_ ?_⟩
      · rintro k v σ Hn hv ⟨sn, v4, v5, v11, v12, v13, v14, rfl⟩
        obtain ⟨em, d, hc, hdv, hf, hem⟩ := data v (List.mem_of_getElem? hv)
        dsimp only [List.set]
        refine ⟨_, rfl, by show 2 ≤ sizeLine; decide, fun q9 hq9 => ?_⟩
        have sq := same_new (o := .tup [V.str "over", .str (pageS n js)]) hq9
        have eq9 := new_at70 sq
        have hc9 := (hc.mono sn).mono sq
        have hd9 := (hdv.mono sn).mono sq
        have sn9 := sn.trans sq
        revert eq9 hc9 hd9 sn9
        generalize upd Hn q9 (.tup [V.str "over", .str (pageS n js)]) = H9
        intro eq9 hc9 hd9 sn9
        have fin : ∀ (d9 : Bool), (em = false → d9 = false) → (em = true → (!fitsN n js) = d9) → ∀ H', Same H9 H' → ∀ (Q' : VK) (E' : XK), (∀ H'', Same H' H'' → Q' (.bl d9) H'') → spA [.ref q9, v] H' Q' E' := fun d9 a1 a2 =>
          hSO (SqT.of eq9) n1 n6 G l0 l6 hc9 a1 (fun e _ => a2 e) (fun _ z => absurd z (by omega))
        have nxt : ∀ H', Same H9 H' → Same H4 H' := fun H' s => sn9.trans s
        refine ⟨_, rfl, _, rfl, _, rfl, ?_⟩
        cases ef : fitsN n js with
        | true =>
          exact iteF ⟨.ref q9, v, false, rfl, fin false (fun _ => rfl) (fun _ => by rw [ef]; rfl), fun H' s => ⟨_, rfl, iteF ⟨nxt H' s, _, _, _, _, _, _, rfl⟩⟩⟩
        | false =>
          obtain ⟨f1, f2, f3, f4⟩ := hf
          refine ⟨_, rfl, v, d, rfl, hd9, f1, f2, f3, f4, rfl, ?_⟩
          rw [hem]
          exact ⟨.ref q9, v, em, rfl, fin em (fun z => z) (fun z => by rw [ef, z]; rfl), fun H' s => ⟨_, rfl, iteF ⟨nxt H' s, _, _, _, _, _, _, rfl⟩⟩⟩
      · rintro σ Hn ⟨sn, v4, v5, v11, v12, v13, v14, rfl⟩
        exact ⟨(b0m'.trans b3).trans' (s3.trans sn), B4.on sn, _, _, _, _, _, _, _, _, _, _, _, _, _, _, rfl⟩
  · rintro σ H1 ⟨b1, B1, v1, v2, v3, v4, v5, v6, v7, v8, v9, v10, v11, v12, v13, v14, rfl⟩
    -- a round that is too long
    refine ⟨by show 2 ≤ sizeLine; decide, fun a1 h1 => ⟨by show 2 ≤ sizeLine; decide, fun a2 h2 => ⟨by show 2 ≤ sizeLine; decide, fun a3 h3 => ⟨by show 2 ≤ sizeLine; decide, fun a4 h4 => ⟨by show 2 ≤ sizeLine; decide, fun a5 h5 => ⟨by show 2 ≤ sizeLine; decide, fun a6 h6 => ⟨by show 3 ≤ sizeLine; decide, fun L hL => ?_⟩⟩⟩⟩⟩⟩⟩
    have y1 := same_new (o := .tup [V.int 1, .int 16]) h1
    have y2 := same_new (o := .tup [V.str "a", .ref a1]) h2
    have y3 := same_new (o := .tup [V.int 2, .int 15]) h3
    have y4 := same_new (o := .tup [V.str "b", .ref a3]) h4
    have y5 := same_new (o := .tup [V.int 3, .int 7]) h5
    have y6 := same_new (o := .tup [V.str "c", .ref a5]) h6
    have yL := same_new (o := .lst [V.ref a2, .ref a4, .ref a6]) hL
    have e1 := (y2.trans (y3.trans (y4.trans (y5.trans (y6.trans yL))))) a1 _ (new_at70 y1)
    have e2 := (y3.trans (y4.trans (y5.trans (y6.trans yL)))) a2 _ (new_at70 y2)
    have e3 := (y4.trans (y5.trans (y6.trans yL))) a3 _ (new_at70 y3)
    have e4 := (y5.trans (y6.trans yL)) a4 _ (new_at70 y4)
    have e5 := (y6.trans yL) a5 _ (new_at70 y5)
    have e6 := yL a6 _ (new_at70 y6)
    have eL := new_at70 yL
    have s1 := y1.trans (y2.trans (y3.trans (y4.trans (y5.trans (y6.trans yL)))))
    revert e1 e2 e3 e4 e5 e6 eL s1
    generalize upd _ L (.lst [V.ref a2, .ref a4, .ref a6]) = H2
    intro e1 e2 e3 e4 e5 e6 eL s1
    clear y1 y2 y3 y4 y5 y6 yL h1 h2 h3 h4 h5 h6 hL
    have dL : Dp K H2 (.ref L) (jobsD big67) := .lst (SqL.of eL) (.cons (.tup (SqT.of e2) (.cons (.str _) (.cons (.tup (SqT.of e1) (.cons (.int _) (.cons (.int _) .nil))) .nil))) (.cons (.tup (SqT.of e4) (.cons (.str _) (.cons (.tup (SqT.of e3) (.cons (.int _) (.cons (.int _) .nil))) .nil))) (.cons (.tup (SqT.of e6) (.cons (.str _) (.cons (.tup (SqT.of e5) (.cons (.int _) (.cons (.int _) .nil))) .nil))) .nil)))
    refine ⟨2, L, big67, rfl, by decide, by decide, big67_good.mono (by decide), dL, fun H3 s3 => ?_⟩
    have s13 := s1.trans s3
    dsimp only [List.set]
    refine ⟨_, rfl, by show 2 ≤ sizeLine; decide, fun q1 k1 => ⟨by show 0 ≤ sizeLine; decide, fun c1 k2 => ?_⟩⟩
    have z1 := same_new (o := .tup [V.str "over", .str (pageS 2 big67)]) k1
    have z2 := same_new (o := .tup ([] : List V)) k2
    refine hSO (d := false) (em := true) (SqT.of (z2 _ _ (new_at70 z1))) (by decide) (by decide) big67_good (by decide) (by decide) (CertV.empty (SqT.of (new_at70 z2))) (fun z => by cases z) (fun _ z => absurd z (by rw [big67_span]; decide)) (fun _ _ => rfl) _ (Same.refl _) _ _ fun H4 s4 => ?_
    refine ⟨_, _, rfl, rfl, _, rfl, itT (by decide) ?_⟩
    have s14 := s13.trans (z1.trans (z2.trans s4))
    clear s13 z1 z2 s4 k1 k2 s1 s3
    refine ⟨_, rfl, by show 2 ≤ sizeLine; decide, fun q2 k3 => ⟨by show 0 ≤ sizeLine; decide, fun a7 k7 => ⟨by show 1 ≤ sizeLine; decide, fun a8 k8 => ⟨a8, 1680, .ref a7, rfl, rfl, SqT.of upd_same, by decide, by decide, fun a9 k9 => ?_⟩⟩⟩⟩
    have z3 := same_new (o := .tup [V.str "fits", .str (pageS 2 big67)]) k3
    have z7 := same_new (o := .tup ([] : List V)) k7
    have z8 := same_new (o := .tup [V.ref a7]) k8
    have z9 := same_new (o := .tup (List.replicate 1680 (V.ref a7))) k9
    have e7 := SqT.of (K := K) ((z8.trans z9) _ _ (new_at70 z7))
    have e9 := SqT.of (K := K) (new_at70 z9)
    have hq2 := SqT.of (K := K) ((z7.trans (z8.trans z9)) _ _ (new_at70 z3))
    have s15 := s14.trans (z3.trans (z7.trans (z8.trans z9)))
    revert e7 e9 hq2 s15
    generalize upd _ a9 (.tup (List.replicate 1680 (V.ref a7))) = H5
    intro e7 e9 hq2 s15
    refine hSF (d := false) (tt := some (List.replicate 1680 (some []))) hq2 (by decide) (by decide) big67_good (by decide) (by decide) ⟨a9, _, rfl, e9, by rw [List.length_replicate, List.length_replicate], fun i x r g1 g2 => ?_⟩ (fun z => absurd z (by rw [big67_span]; decide)) (fun _ => rfl) _ (Same.refl _) _ _ fun H6 s6 => ?_
    · rw [List.eq_of_mem_replicate (List.mem_of_getElem? g1), List.eq_of_mem_replicate (List.mem_of_getElem? g2)]
      exact ⟨a7, [], rfl, e7, rfl, fun i x o h => by cases h⟩
    have s16 := s15.trans s6
    exact ⟨_, _, rfl, rfl, q H6 (b1.trans' s16) (B1.on s16)⟩
end
end Ts
namespace Ts
open PySem PySem.Spec PyProof.Rows L2 L2H LamX
section
variable {P : Program} {w : World} {K : PySem.W.Frag} {mg : Str → Option Value} {base : Heap}
def three67 : List Job := [("ann", 2, 3), ("bob", 1, 2), ("cat", 5, 6)]
theorem three67_good : Good 16 three67 := by
  refine ⟨by decide +kernel, fun j hj => ?_, fun j hj => ?_⟩
  · simp only [three67, List.mem_cons, List.not_mem_nil, or_false] at hj
    rcases hj with rfl | rfl | rfl
    · exact tags67 "ann" (by simp)
    · exact tags67 "bob" (by simp)
    · exact tags67 "cat" (by simp)
  · simp only [three67, List.mem_cons, List.not_mem_nil, or_false] at hj
    rcases hj with rfl | rfl | rfl <;> exact ⟨by decide, by decide, by decide, by decide⟩
theorem three67_page : (Str.ofString "hands 2\nwork ann 2/3\nwork bob 1/2\nwork cat 5/6") = pageS 2 three67 := by decide +kernel
theorem row67 {H : Hp} {us : List V} {rows : List (List Int)} (h : DpAll K H us (rows.map rowD)) {p : Addr} (hp : SqT K H p us) : TabP K H (.ref p) (some (rows.map fun r => some (r.map some))) := by
  refine ⟨p, us, rfl, hp, by rw [h.length, List.length_map, List.length_map], fun i x r h1 h2 => ?_⟩
  obtain ⟨r9, a9, hr9, rfl, ha9⟩ := row_at h h1
  rw [List.getElem?_map, hr9] at h2
  obtain rfl := Option.some.inj h2
  refine ⟨a9, _, rfl, ha9, by rw [List.length_map, List.length_map], fun j y o e1 e2 => ?_⟩
  rw [List.getElem?_map] at e1 e2
  cases e : r9[j]? with
  | none => rw [e] at e1; cases e1
  | some z => rw [e] at e1 e2; cases e1; cases e2; rfl
def first67 : List (List Int) := [[0, 2], [1, 2], [0, 2], [0, 1], [0, 2], [1, 2]]
theorem ok_law67 {f : Addr} {fd : FuncData} {k : Nat} {spA : Sp} (F : Fun K "law" "law" s_law f fd) (B : Blt mg) (hSF : SayFits K spA) (hSO : SayOver K spA) (h_accepts : Has P w K mg base 10 "accepts" ["claim", "certificate"] spA) (h__law_bag : Has P w K mg base 1 "_law_bag" ["_law_script", "_law_spot"] (spBag K)) (h__law_right : HasG P w K mg base (k + 20) "_law_right" ["_law_bag_here"] spRight70) :
    FnG P w K mg base (k + 21) f fd ["_law_script"] (spLaw K) := by
  refine fun_g F sc_law (fun vs H Q E h => ?_) (fun cdv A outer s H vs Q hg0 hr h => ?_)
  · obtain ⟨a, ns, rfl, _⟩ := h; rfl
  obtain ⟨a, ns, rfl, hS, hl, q⟩ := h
  have hg : (A.deeper (envOfC "law" (defScope s_law) s.heap.objs.size f cdv)).guards = some [] := hg0
  refine ⟨_, (pss_cons (ps_set (i := 1) sc_law.nd rfl (.inl rfl) pe_str)
      (pss_cons (ps_set (i := 2) sc_law.nd rfl (.inl rfl) (pe_tup (pa_cons (pe_tup (pa_cons pe_int (pa_cons pe_int pa_nil))) (pa_cons (pe_tup (pa_cons pe_int (pa_cons pe_int pa_nil))) (pa_cons (pe_tup (pa_cons pe_int (pa_cons pe_int pa_nil))) (pa_cons (pe_tup (pa_cons pe_int (pa_cons pe_int pa_nil))) (pa_cons (pe_tup (pa_cons pe_int (pa_cons pe_int pa_nil))) (pa_cons (pe_tup (pa_cons pe_int (pa_cons pe_int pa_nil))) pa_nil))))))))
      (pss_cons (ps_set (i := 3) sc_law.nd rfl (.inl rfl) (pe_lst (pa_cons (pe_h h_accepts (hr.mono (by omega)) (pa_cons (pe_tup (pa_cons pe_str (pa_cons (pv 1) pa_nil))) (pa_cons (pv 2) pa_nil))) (pa_cons (pe_h h_accepts (hr.mono (by omega)) (pa_cons (pe_tup (pa_cons pe_str (pa_cons (pv 1) pa_nil))) (pa_cons (pe_op (op_catUK (K := K) rfl) (pe_tup (pa_cons (pe_tup (pa_cons pe_int (pa_cons pe_int pa_nil))) pa_nil)) (pe_slice sl_tupU (pv 2) (po_some pe_int) po_none)) pa_nil))) (pa_cons (pe_h h_accepts (hr.mono (by omega)) (pa_cons (pe_tup (pa_cons pe_str (pa_cons (pv 1) pa_nil))) (pa_cons (pe_tup pa_nil) pa_nil))) pa_nil)))))
      (pss_cons (ps_expr (pe_bm PySem.F.plainAttrs_list PySem.F.slot_list_append PySem.F.type_list_append mt_append (pv 3) (pa_cons (pe_h h_accepts (hr.mono (by omega)) (pa_cons (pe_tup (pa_cons pe_str (pa_cons (pe_op op_add_str pe_str (pe_slice sl_str (pv 1) (po_some pe_int) po_none)) pa_nil))) (pa_cons (pe_tup pa_nil) pa_nil))) pa_nil)))
      (pss_cons (ps_if (pt_cmpR op_ne (pe_callB (call_reprD hg (hu100 hr)) (by rfl) B.zrepr (by decide +kernel) (pa_cons (pv 3) pa_nil)) (pe_callB (call_reprD hg (hu100 hr)) (by rfl) B.zrepr (by decide +kernel) (pa_cons (pe_lst (pa_cons pe_bl (pa_cons pe_bl (pa_cons pe_bl (pa_cons pe_bl pa_nil))))) pa_nil)) (nomark _)) (pss_one (ps_ret pe_bl)) pss_nil)
      (pss_one (ps_ret (pe_callB (call_allB rfl) (by rfl) B.zall (by decide +kernel) (pa_cons (pe_lc (own := [("_law_spot", 4)]) rfl sc_law.nd (pi_range1 (by rfl) B.zrange (pa_cons (pe_callB (call_max2 rfl) (by rfl) B.zmax (by decide +kernel) (pa_cons pe_int (pa_cons (pe_callB (call_min2 rfl) (by rfl) B.zmin (by decide +kernel) (pa_cons (pe_callB call_len_seq (by rfl) B.zlen (by decide +kernel) (pa_cons (pv 0) pa_nil)) (pa_cons pe_int pa_nil))) pa_nil))) pa_nil)) (blkOk_by (N := ["_law_script", "_law_sheet_here", "_law_first", "_law_told_here", "_law_spot"]) (sc := defScope s_law) (own := [("_law_spot", 4)]) (by decide +kernel)) (fun _ _ _ _ _ => (pg_name (i := 4) sc_law.nd rfl (.inl rfl) (.inr rfl))) (fun _ _ _ _ _ => pts_nil) (fun _ _ _ _ _ => (pe_g h__law_right hg (hr.mono (by omega)) (pa_cons (pe_h h__law_bag (hr.mono (by omega)) (pa_cons (pv 0) (pa_cons (pv 4) pa_nil))) pa_nil)))) pa_nil))))))))), ?_⟩
  dsimp only [L2.start, List.set]
  rw [three67_page]
  refine ⟨by show 2 ≤ sizeLine; decide, fun r1 h1 => ⟨by show 2 ≤ sizeLine; decide, fun r2 h2 => ⟨by show 2 ≤ sizeLine; decide, fun r3 h3 => ⟨by show 2 ≤ sizeLine; decide, fun r4 h4 => ⟨by show 2 ≤ sizeLine; decide, fun r5 h5 => ⟨by show 2 ≤ sizeLine; decide, fun r6 h6 => ⟨by show 6 ≤ sizeLine; decide, fun ft hft => ?_⟩⟩⟩⟩⟩⟩⟩
  have y1 := same_new (o := .tup [V.int 0, .int 2]) h1
  have y2 := same_new (o := .tup [V.int 1, .int 2]) h2
  have y3 := same_new (o := .tup [V.int 0, .int 2]) h3
  have y4 := same_new (o := .tup [V.int 0, .int 1]) h4
  have y5 := same_new (o := .tup [V.int 0, .int 2]) h5
  have y6 := same_new (o := .tup [V.int 1, .int 2]) h6
  have yf := same_new (o := .tup [V.ref r1, .ref r2, .ref r3, .ref r4, .ref r5, .ref r6]) hft
  have e1 := (y2.trans (y3.trans (y4.trans (y5.trans (y6.trans yf))))) r1 _ (new_at70 y1)
  have e2 := (y3.trans (y4.trans (y5.trans (y6.trans yf)))) r2 _ (new_at70 y2)
  have e3 := (y4.trans (y5.trans (y6.trans yf))) r3 _ (new_at70 y3)
  have e4 := (y5.trans (y6.trans yf)) r4 _ (new_at70 y4)
  have e5 := (y6.trans yf) r5 _ (new_at70 y5)
  have e6 := yf r6 _ (new_at70 y6)
  have ef := new_at70 yf
  have s1 := y1.trans (y2.trans (y3.trans (y4.trans (y5.trans (y6.trans yf)))))
  revert e1 e2 e3 e4 e5 e6 ef s1
  generalize upd _ ft (.tup [V.ref r1, .ref r2, .ref r3, .ref r4, .ref r5, .ref r6]) = H1
  intro e1 e2 e3 e4 e5 e6 ef s1
  clear y1 y2 y3 y4 y5 y6 yf h1 h2 h3 h4 h5 h6 hft
  have two : ∀ {r : Addr} {x y : Int}, H1 r = some (.tup [V.int x, .int y]) → Dp K H1 (.ref r) (rowD [x, y]) := fun e => .tup (SqT.of e) (.cons (.int _) (.cons (.int _) .nil))
  have dtl : DpAll K H1 [V.ref r2, .ref r3, .ref r4, .ref r5, .ref r6] (first67.tail.map rowD) := .cons (two e2) (.cons (two e3) (.cons (two e4) (.cons (two e5) (.cons (two e6) .nil))))
  have dft : DpAll K H1 [V.ref r1, .ref r2, .ref r3, .ref r4, .ref r5, .ref r6] (first67.map rowD) := .cons (two e1) dtl
  -- the first one
  refine ⟨_, rfl, by show 2 ≤ sizeLine; decide, fun q1 k1 => ?_⟩
  have z1 := same_new (o := .tup [V.str "fits", .str (pageS 2 three67)]) k1
  refine ⟨_, rfl, hSF (d := true) (SqT.of (new_at70 z1)) (by decide) (by decide) three67_good (by decide) (by decide) (row67 (dft.mono z1) (SqT.of (z1 _ _ ef))) (fun _ => by decide +kernel) (fun z => absurd z (by decide +kernel)) _ (Same.refl _) _ _ fun H2 s2 => ?_⟩
  have s12 := z1.trans s2
  clear z1 s2 k1
  -- the second one
  refine ⟨_, rfl, by show 2 ≤ sizeLine; decide, fun q2 k1 => ?_⟩
  have z1 := same_new (o := .tup [V.str "fits", .str (pageS 2 three67)]) k1
  refine ⟨by show 2 ≤ sizeLine; decide, fun t1 k2 => ⟨by show 1 ≤ sizeLine; decide, fun t2 k3 => ?_⟩⟩
  have z2 := same_new (o := .tup [V.int 0, .int 1]) k2
  have z3 := same_new (o := .tup [V.ref t1]) k3
  have z13 := z1.trans (z2.trans z3)
  refine ⟨_, rfl, (1 : Int), rfl, ft, _, rfl, SqT.of (z13 _ _ (s12 _ _ ef)), fun t3 H3 s3 _ S3 _ => ?_⟩
  rw [show (1 : Int) = ((1 : Nat) : Int) from rfl, cut_from (show 1 ≤ 6 by decide)] at S3
  refine ⟨t2, t3, [.ref t1], _, rfl, rfl, sameT s3 (SqT.of (new_at70 z3)), S3, (show 1 + 5 ≤ sizeLine by decide), fun t4 H4 s4 _ S4 => ?_⟩
  have d1 : Dp K H4 (.ref t1) (rowD [0, 1]) := .tup (SqT.of (s4 _ _ (s3 _ _ (z3 _ _ (new_at70 z2))))) (.cons (.int _) (.cons (.int _) .nil))
  have s14 := s12.trans (z13.trans (s3.trans s4))
  have hq2 := (z2.trans (z3.trans (s3.trans s4))) _ _ (new_at70 z1)
  refine hSF (d := false) (SqT.of hq2) (by decide) (by decide) three67_good (by decide) (by decide) (row67 (rows := [0, 1] :: first67.tail) (.cons d1 (dtl.mono s14)) S4) (fun _ => by decide +kernel) (fun z => absurd z (by decide +kernel)) _ (Same.refl _) _ _ fun H5 s5 => ?_
  have s15 := s14.trans s5
  clear s12 z1 z2 z3 z13 s3 S3 s4 S4 d1 s14 hq2 s5 k1 k2 k3
  -- over
  refine ⟨_, rfl, by show 2 ≤ sizeLine; decide, fun q3 k1 => ⟨by show 0 ≤ sizeLine; decide, fun c3 k2 => ?_⟩⟩
  have z1 := same_new (o := .tup [V.str "over", .str (pageS 2 three67)]) k1
  have z2 := same_new (o := .tup ([] : List V)) k2
  refine hSO (d := false) (em := true) (SqT.of (z2 _ _ (new_at70 z1))) (by decide) (by decide) three67_good (by decide) (by decide) (CertV.empty (SqT.of (new_at70 z2))) (fun z => by cases z) (fun _ _ => by decide +kernel) (fun _ z => rfl) _ (Same.refl _) _ _ fun H6 s6 => ?_
  have s16 := s15.trans (z1.trans (z2.trans s6))
  clear s15 z1 z2 s6 k1 k2
  refine ⟨by show 3 ≤ sizeLine; decide, fun L hL => ?_⟩
  have xL := same_new (o := .lst [V.bl true, .bl false, .bl false]) hL
  have eL := new_at70 xL
  have nLa : H L = none := by
    cases e : H L with
    | none => rfl
    | some o => rw [(s1.trans s16) _ _ e] at hL; cases hL
  have s17 := (s1.trans s16).trans xL
  revert eL s17
  generalize upd H6 L (.lst [V.bl true, .bl false, .bl false]) = H7
  intro eL s17
  clear xL hL s1 s16 e1 e2 e3 e4 e5 e6 ef two dtl dft
  -- one hand
  refine ⟨_, rfl, .inl ⟨rfl, _, SqL.of eL⟩, ?_⟩
  refine ⟨_, rfl, (7 : Int), rfl, pageS 2 three67, rfl, Nat.le_of_lt (small1000 (by decide +kernel)), _, _, rfl, rfl, Nat.le_of_lt (small1000 (by decide +kernel)), ?_⟩
  rw [show (Str.ofString "hands 1") ++ cutS (pageS 2 three67) (some 7) none = pageS 1 three67 from by decide +kernel]
  refine ⟨by show 2 ≤ sizeLine; decide, fun q4 k1 => ⟨by show 0 ≤ sizeLine; decide, fun c4 k2 => ?_⟩⟩
  have z1 := same_new (o := .tup [V.str "over", .str (pageS 1 three67)]) k1
  have z2 := same_new (o := .tup ([] : List V)) k2
  refine hSO (d := true) (em := true) (SqT.of (z2 _ _ (new_at70 z1))) (by decide) (by decide) three67_good (by decide) (by decide) (CertV.empty (SqT.of (new_at70 z2))) (fun z => by cases z) (fun _ _ => by decide +kernel) (fun _ z => absurd z (by decide +kernel)) _ (Same.refl _) _ _ fun H8 s8 => ?_
  have s78 := z1.trans (z2.trans s8)
  have e8 := s78 _ _ eL
  refine ⟨L, _, _, rfl, rfl, e8, by show 3 < sizeLine; decide, ?_⟩
  have h05 : Same H (upd H8 L (.lst ([.bl true, .bl false, .bl false] ++ [.bl true]))) := Same.app nLa (s17.trans s78)
  have e5 : (upd H8 L (.lst ([.bl true, .bl false, .bl false] ++ [.bl true]))) L = some (.lst [.bl true, .bl false, .bl false, .bl true]) := upd_same
  revert h05 e5
  generalize upd H8 L (.lst ([.bl true, .bl false, .bl false] ++ [.bl true])) = H9
  intro h05 e5
  clear z1 z2 s8 k1 k2 s78 e8 eL s17
  have f1 : (PyData.list [.bool true, .bool false, .bool false, .bool true]).showable = true ∧ (PyData.list [.bool true, .bool false, .bool false, .bool true]).hasDict = false ∧ (PyData.list [.bool true, .bool false, .bool false, .bool true]).depth < 60 ∧ (PyData.list [.bool true, .bool false, .bool false, .bool true]).shown.length ≤ sizeLine := ⟨rfl, rfl, by show 1 < 60; decide, Nat.le_of_lt (small1000 (by decide +kernel))⟩
  obtain ⟨f1, f2, f3, f4⟩ := f1
  dsimp only [List.set]
  refine ⟨_, rfl, L, .list [.bool true, .bool false, .bool false, .bool true], rfl, .lst (SqL.of e5) (.cons (.bl _) (.cons (.bl _) (.cons (.bl _) (.cons (.bl _) .nil)))), f1, f2, f3, f4, ?_⟩
  refine ⟨by show 4 ≤ sizeLine; decide, fun L4 hL4 => ?_⟩
  refine ⟨L4, .list [.bool true, .bool false, .bool false, .bool true], rfl, .lst (SqL.of upd_same) (.cons (.bl _) (.cons (.bl _) (.cons (.bl _) (.cons (.bl _) .nil)))), f1, f2, f3, f4, ?_⟩
  have h08 := h05.trans (same_new (o := .lst [.bl true, .bl false, .bl false, .bl true]) hL4)
  revert h08
  generalize upd _ L4 (.lst [.bl true, .bl false, .bl false, .bl true]) = H8
  intro h08
  clear h05 hL4 e5
  refine ⟨rfl, ?_⟩
  refine ⟨_, rfl, itF (by rw [decide_eq_true rfl]; rfl) ?_⟩
  clear f1 f2 f3 f4
  have S8 := h08.seq hS
  refine ⟨_, rfl, a, _, rfl, .inl S8, _, _, rfl, _, _, rfl, ?_⟩
  have em : (if (if ((ns.map V.int).length : Int) > (5 : Int) then (5 : Int) else ((ns.map V.int).length : Int)) > (2 : Int) then (if ((ns.map V.int).length : Int) > (5 : Int) then (5 : Int) else ((ns.map V.int).length : Int)) else 2) = ((max 2 (min ns.length 5) : Nat) : Int) := by
    rw [List.length_map]
    split <;> split <;> omega
  refine ⟨_, rfl, ?_⟩
  show _ ∧ _
  rw [em]
  refine ⟨by omega, by omega, fun pl hpl => ?_⟩
  refine lc_range (lo := 0) (n := (((max 2 (min ns.length 5) : Nat) : Int)).toNat) (fun i Hm => Same H8 Hm ∧ Hm pl = some (.lst ((List.replicate i true).map V.bl))) ⟨same_new hpl, upd_same⟩ ?_ ?_
  · rintro i Hm hi ⟨sm, em⟩
    have ec : (0 : Int) + (i : Int) = (i : Int) := by omega
    rw [ec]
    refine ⟨rfl, yesIf ⟨_, rfl, _, rfl, a, ns, i, rfl, sm.seq S8, hl, by omega, fun b H9 hb s9 hB => ⟨b, rfl, hB, fun Ha b9 B9 => ?_⟩⟩⟩
    have sa : Same Hm Ha := fun c o e => b9 _ _ (ne_of_none e hb) (s9 _ _ e)
    refine ⟨_, sa _ _ em, by rw [List.length_map, List.length_replicate]; exact small1000 (by omega), Same.app hpl (sm.trans sa), ?_⟩
    rw [upd_same, List.replicate_succ', List.map_append]; rfl
  · rintro Hm ⟨sm, em⟩
    refine ⟨pl, _, rfl, SqL.of em, ?_⟩
    have e : (List.replicate (((max 2 (min ns.length 5) : Nat) : Int)).toNat true).all id = true := List.all_eq_true.mpr fun x hx => by rw [List.eq_of_mem_replicate hx]; rfl
    rw [e]
    exact q Hm
end
end Ts
namespace Ts
open PySem PySem.Spec PyProof.Rows L2 L2H LamX
theorem all_mk {l : PySem.W.OpenLaw} {w : World} {K : PySem.W.Frag} {h : Heap} {mg : Str → Option Value} {fa C : Addr} (X : K.In h) (G : h.Ns mainGlobals mg) (hfa : mg "law" = some (.ref fa))
    {f0 : Addr} {od0 an0 : Option Addr} {sl0 : Array (Option Value)} {oc0 kV0 dc0 pm0 cd0 ct0 : Value}
    {f1 : Addr} {od1 an1 : Option Addr} {sl1 : Array (Option Value)} {oc1 kV1 dc1 pm1 cd1 ct1 : Value}
    {f2 : Addr} {od2 an2 : Option Addr} {sl2 : Array (Option Value)} {oc2 kV2 dc2 pm2 cd2 ct2 : Value}
    {f3 : Addr} {od3 an3 : Option Addr} {sl3 : Array (Option Value)} {oc3 kV3 dc3 pm3 cd3 ct3 : Value}
    {f4 : Addr} {od4 an4 : Option Addr} {sl4 : Array (Option Value)} {oc4 kV4 dc4 pm4 cd4 ct4 : Value}
    {f5 : Addr} {od5 an5 : Option Addr} {sl5 : Array (Option Value)} {oc5 kV5 dc5 pm5 cd5 ct5 : Value}
    {f6 : Addr} {od6 an6 : Option Addr} {sl6 : Array (Option Value)} {oc6 kV6 dc6 pm6 cd6 ct6 : Value}
    {f7 : Addr} {od7 an7 : Option Addr} {sl7 : Array (Option Value)} {oc7 kV7 dc7 pm7 cd7 ct7 : Value}
    {f8 : Addr} {od8 an8 : Option Addr} {sl8 : Array (Option Value)} {oc8 kV8 dc8 pm8 cd8 ct8 : Value}
    {f9 : Addr} {od9 an9 : Option Addr} {sl9 : Array (Option Value)} {oc9 kV9 dc9 pm9 cd9 ct9 : Value}
    {f10 : Addr} {od10 an10 : Option Addr} {sl10 : Array (Option Value)} {oc10 kV10 dc10 pm10 cd10 ct10 : Value}
    {f11 : Addr} {od11 an11 : Option Addr} {sl11 : Array (Option Value)} {oc11 kV11 dc11 pm11 cd11 ct11 : Value}
    {f12 : Addr} {od12 an12 : Option Addr} {sl12 : Array (Option Value)} {oc12 kV12 dc12 pm12 cd12 ct12 : Value}
    {f13 : Addr} {od13 an13 : Option Addr} {sl13 : Array (Option Value)} {oc13 kV13 dc13 pm13 cd13 ct13 : Value}
    {f14 : Addr} {od14 an14 : Option Addr} {sl14 : Array (Option Value)} {oc14 kV14 dc14 pm14 cd14 ct14 : Value}
    {f15 : Addr} {od15 an15 : Option Addr} {sl15 : Array (Option Value)} {oc15 kV15 dc15 pm15 cd15 ct15 : Value}
    {f16 : Addr} {od16 an16 : Option Addr} {sl16 : Array (Option Value)} {oc16 kV16 dc16 pm16 cd16 ct16 : Value}
    {f17 : Addr} {od17 an17 : Option Addr} {sl17 : Array (Option Value)} {oc17 kV17 dc17 pm17 cd17 ct17 : Value}
    {f18 : Addr} {od18 an18 : Option Addr} {sl18 : Array (Option Value)} {oc18 kV18 dc18 pm18 cd18 ct18 : Value}
    {f19 : Addr} {od19 an19 : Option Addr} {sl19 : Array (Option Value)} {oc19 kV19 dc19 pm19 cd19 ct19 : Value}
    {f20 : Addr} {od20 an20 : Option Addr} {sl20 : Array (Option Value)} {oc20 kV20 dc20 pm20 cd20 ct20 : Value}
    {f21 : Addr} {od21 an21 : Option Addr} {sl21 : Array (Option Value)} {oc21 kV21 dc21 pm21 cd21 ct21 : Value}
    {f22 : Addr} {od22 an22 : Option Addr} {sl22 : Array (Option Value)} {oc22 kV22 dc22 pm22 cd22 ct22 : Value}
    {f23 : Addr} {od23 an23 : Option Addr} {sl23 : Array (Option Value)} {oc23 kV23 dc23 pm23 cd23 ct23 : Value}
    {f24 : Addr} {od24 an24 : Option Addr} {sl24 : Array (Option Value)} {oc24 kV24 dc24 pm24 cd24 ct24 : Value}
    {f25 : Addr} {od25 an25 : Option Addr} {sl25 : Array (Option Value)} {oc25 kV25 dc25 pm25 cd25 ct25 : Value}
    {f26 : Addr} {od26 an26 : Option Addr} {sl26 : Array (Option Value)} {oc26 kV26 dc26 pm26 cd26 ct26 : Value}
    {f27 : Addr} {od27 an27 : Option Addr} {sl27 : Array (Option Value)} {oc27 kV27 dc27 pm27 cd27 ct27 : Value}
    {f28 : Addr} {od28 an28 : Option Addr} {sl28 : Array (Option Value)} {oc28 kV28 dc28 pm28 cd28 ct28 : Value}
    {f29 : Addr} {od29 an29 : Option Addr} {sl29 : Array (Option Value)} {oc29 kV29 dc29 pm29 cd29 ct29 : Value}
    {f30 : Addr} {od30 an30 : Option Addr} {sl30 : Array (Option Value)} {oc30 kV30 dc30 pm30 cd30 ct30 : Value}
    {f31 : Addr} {od31 an31 : Option Addr} {sl31 : Array (Option Value)} {oc31 kV31 dc31 pm31 cd31 ct31 : Value}
    {f32 : Addr} {od32 an32 : Option Addr} {sl32 : Array (Option Value)} {oc32 kV32 dc32 pm32 cd32 ct32 : Value}
    {f33 : Addr} {od33 an33 : Option Addr} {sl33 : Array (Option Value)} {oc33 kV33 dc33 pm33 cd33 ct33 : Value}
    {f34 : Addr} {od34 an34 : Option Addr} {sl34 : Array (Option Value)} {oc34 kV34 dc34 pm34 cd34 ct34 : Value}
    {f35 : Addr} {od35 an35 : Option Addr} {sl35 : Array (Option Value)} {oc35 kV35 dc35 pm35 cd35 ct35 : Value}
    {f36 : Addr} {od36 an36 : Option Addr} {sl36 : Array (Option Value)} {oc36 kV36 dc36 pm36 cd36 ct36 : Value}
    {f37 : Addr} {od37 an37 : Option Addr} {sl37 : Array (Option Value)} {oc37 kV37 dc37 pm37 cd37 ct37 : Value}
    {f38 : Addr} {od38 an38 : Option Addr} {sl38 : Array (Option Value)} {oc38 kV38 dc38 pm38 cd38 ct38 : Value}
    {f39 : Addr} {od39 an39 : Option Addr} {sl39 : Array (Option Value)} {oc39 kV39 dc39 pm39 cd39 ct39 : Value}
    {f40 : Addr} {od40 an40 : Option Addr} {sl40 : Array (Option Value)} {oc40 kV40 dc40 pm40 cd40 ct40 : Value}
    {f41 : Addr} {od41 an41 : Option Addr} {sl41 : Array (Option Value)} {oc41 kV41 dc41 pm41 cd41 ct41 : Value}
    {f42 : Addr} {od42 an42 : Option Addr} {sl42 : Array (Option Value)} {oc42 kV42 dc42 pm42 cd42 ct42 : Value}
    {f43 : Addr} {od43 an43 : Option Addr} {sl43 : Array (Option Value)} {oc43 kV43 dc43 pm43 cd43 ct43 : Value}
    {f44 : Addr} {od44 an44 : Option Addr} {sl44 : Array (Option Value)} {oc44 kV44 dc44 pm44 cd44 ct44 : Value}
    {f45 : Addr} {od45 an45 : Option Addr} {sl45 : Array (Option Value)} {oc45 kV45 dc45 pm45 cd45 ct45 : Value}
    {fI : Addr} {odI anI : Option Addr} {slI : Array (Option Value)} {ocI kVI dcI pmI cdI ctI : Value}
    {fPshares : Addr} {odPshares anPshares : Option Addr} {slPshares : Array (Option Value)} {ocPshares kVPshares dcPshares pmPshares cdPshares ctPshares : Value} {pPshares : Addr} {rePshares : List Value}
    {fPspan : Addr} {odPspan anPspan : Option Addr} {slPspan : Array (Option Value)} {ocPspan kVPspan dcPspan pmPspan cdPspan ctPspan : Value} {pPspan : Addr} {rePspan : List Value}
    {fPhands : Addr} {odPhands anPhands : Option Addr} {slPhands : Array (Option Value)} {ocPhands kVPhands dcPhands pmPhands cdPhands ctPhands : Value} {pPhands : Addr} {rePhands : List Value}
    {fPtotal : Addr} {odPtotal anPtotal : Option Addr} {slPtotal : Array (Option Value)} {ocPtotal kVPtotal dcPtotal pmPtotal cdPtotal ctPtotal : Value} {pPtotal : Addr} {rePtotal : List Value}
    {AL AN : Addr} {esL esN : Array DictEntry} {nL nN : Nat}
    {e8 v0 : Addr}
    {fX8 : Addr} {odX8 anX8 : Option Addr} {slX8 : Array (Option Value)} {ocX8 kVX8 dcX8 pmX8 cdX8 ctX8 : Value}
    {t0 : Tok}
    {t1 : Tok}
    {t2 : Tok}
    {t3 : Tok}
    {t4 : Tok}
    {tMOST_ROUND : Tok}
    (a0 : PySem.W.nsIn K mainGlobals "_law_bag" = some (some (.ref f0)))
    (l0 : K.lookup f0 = some ⟨oc0, od0, .func (PySem.W.fnOf "_law_bag" "_law_bag" (defArgs s__law_bag) (defBody s__law_bag) (defScope s__law_bag) .none kV0 dc0 pm0 an0 cd0 ct0), sl0⟩)
    (c0 : PySem.W.codeIn K cd0 "_law_bag" = true)
    (k0 : PySem.W.keepIn K (.ref f0) = true)
    (a1 : PySem.W.nsIn K mainGlobals "_law_take" = some (some (.ref f1)))
    (l1 : K.lookup f1 = some ⟨oc1, od1, .func (PySem.W.fnOf "_law_take" "_law_take" (defArgs s__law_take) (defBody s__law_take) (defScope s__law_take) .none kV1 dc1 pm1 an1 cd1 ct1), sl1⟩)
    (c1 : PySem.W.codeIn K cd1 "_law_take" = true)
    (k1 : PySem.W.keepIn K (.ref f1) = true)
    (a2 : PySem.W.nsIn K mainGlobals "_law_of" = some (some (.ref f2)))
    (l2 : K.lookup f2 = some ⟨oc2, od2, .func (PySem.W.fnOf "_law_of" "_law_of" (defArgs s__law_of) (defBody s__law_of) (defScope s__law_of) .none kV2 dc2 pm2 an2 cd2 ct2), sl2⟩)
    (c2 : PySem.W.codeIn K cd2 "_law_of" = true)
    (k2 : PySem.W.keepIn K (.ref f2) = true)
    (a3 : PySem.W.nsIn K mainGlobals "_law_whole" = some (some (.ref f3)))
    (l3 : K.lookup f3 = some ⟨oc3, od3, .func (PySem.W.fnOf "_law_whole" "_law_whole" (defArgs s__law_whole) (defBody s__law_whole) (defScope s__law_whole) .none kV3 dc3 pm3 an3 cd3 ct3), sl3⟩)
    (c3 : PySem.W.codeIn K cd3 "_law_whole" = true)
    (k3 : PySem.W.keepIn K (.ref f3) = true)
    (a4 : PySem.W.nsIn K mainGlobals "_law_common" = some (some (.ref f4)))
    (l4 : K.lookup f4 = some ⟨oc4, od4, .func (PySem.W.fnOf "_law_common" "_law_common" (defArgs s__law_common) (defBody s__law_common) (defScope s__law_common) .none kV4 dc4 pm4 an4 cd4 ct4), sl4⟩)
    (c4 : PySem.W.codeIn K cd4 "_law_common" = true)
    (k4 : PySem.W.keepIn K (.ref f4) = true)
    (a5 : PySem.W.nsIn K mainGlobals "_law_share" = some (some (.ref f5)))
    (l5 : K.lookup f5 = some ⟨oc5, od5, .func (PySem.W.fnOf "_law_share" "_law_share" (defArgs s__law_share) (defBody s__law_share) (defScope s__law_share) .none kV5 dc5 pm5 an5 cd5 ct5), sl5⟩)
    (c5 : PySem.W.codeIn K cd5 "_law_share" = true)
    (k5 : PySem.W.keepIn K (.ref f5) = true)
    (a6 : PySem.W.nsIn K mainGlobals "_law_sum" = some (some (.ref f6)))
    (l6 : K.lookup f6 = some ⟨oc6, od6, .func (PySem.W.fnOf "_law_sum" "_law_sum" (defArgs s__law_sum) (defBody s__law_sum) (defScope s__law_sum) .none kV6 dc6 pm6 an6 cd6 ct6), sl6⟩)
    (c6 : PySem.W.codeIn K cd6 "_law_sum" = true)
    (k6 : PySem.W.keepIn K (.ref f6) = true)
    (a7 : PySem.W.nsIn K mainGlobals "_law_circle" = some (some (.ref f7)))
    (l7 : K.lookup f7 = some ⟨oc7, od7, .func (PySem.W.fnOf "_law_circle" "_law_circle" (defArgs s__law_circle) (defBody s__law_circle) (defScope s__law_circle) .none kV7 dc7 pm7 an7 cd7 ct7), sl7⟩)
    (c7 : PySem.W.codeIn K cd7 "_law_circle" = true)
    (k7 : PySem.W.keepIn K (.ref f7) = true)
    (a8 : PySem.W.nsIn K mainGlobals "_law_sheet" = some (some (.ref f8)))
    (l8 : K.lookup f8 = some ⟨oc8, od8, .func (PySem.W.fnOf "_law_sheet" "_law_sheet" (defArgs s__law_sheet) (defBody s__law_sheet) (defScope s__law_sheet) .none kV8 dc8 pm8 an8 cd8 ct8), sl8⟩)
    (c8 : PySem.W.codeIn K cd8 "_law_sheet" = true)
    (k8 : PySem.W.keepIn K (.ref f8) = true)
    (a9 : PySem.W.nsIn K mainGlobals "_law_world" = some (some (.ref f9)))
    (l9 : K.lookup f9 = some ⟨oc9, od9, .func (PySem.W.fnOf "_law_world" "_law_world" (defArgs s__law_world) (defBody s__law_world) (defScope s__law_world) .none kV9 dc9 pm9 an9 cd9 ct9), sl9⟩)
    (c9 : PySem.W.codeIn K cd9 "_law_world" = true)
    (k9 : PySem.W.keepIn K (.ref f9) = true)
    (a10 : PySem.W.nsIn K mainGlobals "_law_kept" = some (some (.ref f10)))
    (l10 : K.lookup f10 = some ⟨oc10, od10, .func (PySem.W.fnOf "_law_kept" "_law_kept" (defArgs s__law_kept) (defBody s__law_kept) (defScope s__law_kept) .none kV10 dc10 pm10 an10 cd10 ct10), sl10⟩)
    (c10 : PySem.W.codeIn K cd10 "_law_kept" = true)
    (k10 : PySem.W.keepIn K (.ref f10) = true)
    (a11 : PySem.W.nsIn K mainGlobals "_law_sets" = some (some (.ref f11)))
    (l11 : K.lookup f11 = some ⟨oc11, od11, .func (PySem.W.fnOf "_law_sets" "_law_sets" (defArgs s__law_sets) (defBody s__law_sets) (defScope s__law_sets) .none kV11 dc11 pm11 an11 cd11 ct11), sl11⟩)
    (c11 : PySem.W.codeIn K cd11 "_law_sets" = true)
    (k11 : PySem.W.keepIn K (.ref f11) = true)
    (a12 : PySem.W.nsIn K mainGlobals "_law_more" = some (some (.ref f12)))
    (l12 : K.lookup f12 = some ⟨oc12, od12, .func (PySem.W.fnOf "_law_more" "_law_more" (defArgs s__law_more) (defBody s__law_more) (defScope s__law_more) .none kV12 dc12 pm12 an12 cd12 ct12), sl12⟩)
    (c12 : PySem.W.codeIn K cd12 "_law_more" = true)
    (k12 : PySem.W.keepIn K (.ref f12) = true)
    (a13 : PySem.W.nsIn K mainGlobals "_law_border" = some (some (.ref f13)))
    (l13 : K.lookup f13 = some ⟨oc13, od13, .func (PySem.W.fnOf "_law_border" "_law_border" (defArgs s__law_border) (defBody s__law_border) (defScope s__law_border) .none kV13 dc13 pm13 an13 cd13 ct13), sl13⟩)
    (c13 : PySem.W.codeIn K cd13 "_law_border" = true)
    (k13 : PySem.W.keepIn K (.ref f13) = true)
    (a14 : PySem.W.nsIn K mainGlobals "_law_laps" = some (some (.ref f14)))
    (l14 : K.lookup f14 = some ⟨oc14, od14, .func (PySem.W.fnOf "_law_laps" "_law_laps" (defArgs s__law_laps) (defBody s__law_laps) (defScope s__law_laps) .none kV14 dc14 pm14 an14 cd14 ct14), sl14⟩)
    (c14 : PySem.W.codeIn K cd14 "_law_laps" = true)
    (k14 : PySem.W.keepIn K (.ref f14) = true)
    (a15 : PySem.W.nsIn K mainGlobals "_law_group" = some (some (.ref f15)))
    (l15 : K.lookup f15 = some ⟨oc15, od15, .func (PySem.W.fnOf "_law_group" "_law_group" (defArgs s__law_group) (defBody s__law_group) (defScope s__law_group) .none kV15 dc15 pm15 an15 cd15 ct15), sl15⟩)
    (c15 : PySem.W.codeIn K cd15 "_law_group" = true)
    (k15 : PySem.W.keepIn K (.ref f15) = true)
    (a16 : PySem.W.nsIn K mainGlobals "_law_key" = some (some (.ref f16)))
    (l16 : K.lookup f16 = some ⟨oc16, od16, .func (PySem.W.fnOf "_law_key" "_law_key" (defArgs s__law_key) (defBody s__law_key) (defScope s__law_key) .none kV16 dc16 pm16 an16 cd16 ct16), sl16⟩)
    (c16 : PySem.W.codeIn K cd16 "_law_key" = true)
    (k16 : PySem.W.keepIn K (.ref f16) = true)
    (a17 : PySem.W.nsIn K mainGlobals "_law_play" = some (some (.ref f17)))
    (l17 : K.lookup f17 = some ⟨oc17, od17, .func (PySem.W.fnOf "_law_play" "_law_play" (defArgs s__law_play) (defBody s__law_play) (defScope s__law_play) .none kV17 dc17 pm17 an17 cd17 ct17), sl17⟩)
    (c17 : PySem.W.codeIn K cd17 "_law_play" = true)
    (k17 : PySem.W.keepIn K (.ref f17) = true)
    (a18 : PySem.W.nsIn K mainGlobals "_law_said" = some (some (.ref f18)))
    (l18 : K.lookup f18 = some ⟨oc18, od18, .func (PySem.W.fnOf "_law_said" "_law_said" (defArgs s__law_said) (defBody s__law_said) (defScope s__law_said) .none kV18 dc18 pm18 an18 cd18 ct18), sl18⟩)
    (c18 : PySem.W.codeIn K cd18 "_law_said" = true)
    (k18 : PySem.W.keepIn K (.ref f18) = true)
    (a19 : PySem.W.nsIn K mainGlobals "_law_is_row" = some (some (.ref f19)))
    (l19 : K.lookup f19 = some ⟨oc19, od19, .func (PySem.W.fnOf "_law_is_row" "_law_is_row" (defArgs s__law_is_row) (defBody s__law_is_row) (defScope s__law_is_row) .none kV19 dc19 pm19 an19 cd19 ct19), sl19⟩)
    (c19 : PySem.W.codeIn K cd19 "_law_is_row" = true)
    (k19 : PySem.W.keepIn K (.ref f19) = true)
    (a20 : PySem.W.nsIn K mainGlobals "_law_bent_row" = some (some (.ref f20)))
    (l20 : K.lookup f20 = some ⟨oc20, od20, .func (PySem.W.fnOf "_law_bent_row" "_law_bent_row" (defArgs s__law_bent_row) (defBody s__law_bent_row) (defScope s__law_bent_row) .none kV20 dc20 pm20 an20 cd20 ct20), sl20⟩)
    (c20 : PySem.W.codeIn K cd20 "_law_bent_row" = true)
    (k20 : PySem.W.keepIn K (.ref f20) = true)
    (a21 : PySem.W.nsIn K mainGlobals "_law_any_row" = some (some (.ref f21)))
    (l21 : K.lookup f21 = some ⟨oc21, od21, .func (PySem.W.fnOf "_law_any_row" "_law_any_row" (defArgs s__law_any_row) (defBody s__law_any_row) (defScope s__law_any_row) .none kV21 dc21 pm21 an21 cd21 ct21), sl21⟩)
    (c21 : PySem.W.codeIn K cd21 "_law_any_row" = true)
    (k21 : PySem.W.keepIn K (.ref f21) = true)
    (a22 : PySem.W.nsIn K mainGlobals "_law_right" = some (some (.ref f22)))
    (l22 : K.lookup f22 = some ⟨oc22, od22, .func (PySem.W.fnOf "_law_right" "_law_right" (defArgs s__law_right) (defBody s__law_right) (defScope s__law_right) .none kV22 dc22 pm22 an22 cd22 ct22), sl22⟩)
    (c22 : PySem.W.codeIn K cd22 "_law_right" = true)
    (k22 : PySem.W.keepIn K (.ref f22) = true)
    (a23 : PySem.W.nsIn K mainGlobals "law" = some (some (.ref f23)))
    (l23 : K.lookup f23 = some ⟨oc23, od23, .func (PySem.W.fnOf "law" "law" (defArgs s_law) (defBody s_law) (defScope s_law) .none kV23 dc23 pm23 an23 cd23 ct23), sl23⟩)
    (c23 : PySem.W.codeIn K cd23 "law" = true)
    (k23 : PySem.W.keepIn K (.ref f23) = true)
    (a24 : PySem.W.nsIn K mainGlobals "is_number" = some (some (.ref f24)))
    (l24 : K.lookup f24 = some ⟨oc24, od24, .func (PySem.W.fnOf "is_number" "is_number" (defArgs s_is_number) (defBody s_is_number) (defScope s_is_number) .none kV24 dc24 pm24 an24 cd24 ct24), sl24⟩)
    (c24 : PySem.W.codeIn K cd24 "is_number" = true)
    (k24 : PySem.W.keepIn K (.ref f24) = true)
    (a25 : PySem.W.nsIn K mainGlobals "is_number_from" = some (some (.ref f25)))
    (l25 : K.lookup f25 = some ⟨oc25, od25, .func (PySem.W.fnOf "is_number_from" "is_number_from" (defArgs s_is_number_from) (defBody s_is_number_from) (defScope s_is_number_from) .none kV25 dc25 pm25 an25 cd25 ct25), sl25⟩)
    (c25 : PySem.W.codeIn K cd25 "is_number_from" = true)
    (k25 : PySem.W.keepIn K (.ref f25) = true)
    (a26 : PySem.W.nsIn K mainGlobals "is_name" = some (some (.ref f26)))
    (l26 : K.lookup f26 = some ⟨oc26, od26, .func (PySem.W.fnOf "is_name" "is_name" (defArgs s_is_name) (defBody s_is_name) (defScope s_is_name) .none kV26 dc26 pm26 an26 cd26 ct26), sl26⟩)
    (c26 : PySem.W.codeIn K cd26 "is_name" = true)
    (k26 : PySem.W.keepIn K (.ref f26) = true)
    (a27 : PySem.W.nsIn K mainGlobals "is_share" = some (some (.ref f27)))
    (l27 : K.lookup f27 = some ⟨oc27, od27, .func (PySem.W.fnOf "is_share" "is_share" (defArgs s_is_share) (defBody s_is_share) (defScope s_is_share) .none kV27 dc27 pm27 an27 cd27 ct27), sl27⟩)
    (c27 : PySem.W.codeIn K cd27 "is_share" = true)
    (k27 : PySem.W.keepIn K (.ref f27) = true)
    (a28 : PySem.W.nsIn K mainGlobals "keeps_all" = some (some (.ref f28)))
    (l28 : K.lookup f28 = some ⟨oc28, od28, .func (PySem.W.fnOf "keeps_all" "keeps_all" (defArgs s_keeps_all) (defBody s_keeps_all) (defScope s_keeps_all) .none kV28 dc28 pm28 an28 cd28 ct28), sl28⟩)
    (c28 : PySem.W.codeIn K cd28 "keeps_all" = true)
    (k28 : PySem.W.keepIn K (.ref f28) = true)
    (a29 : PySem.W.nsIn K mainGlobals "are_kept" = some (some (.ref f29)))
    (l29 : K.lookup f29 = some ⟨oc29, od29, .func (PySem.W.fnOf "are_kept" "are_kept" (defArgs s_are_kept) (defBody s_are_kept) (defScope s_are_kept) .none kV29 dc29 pm29 an29 cd29 ct29), sl29⟩)
    (c29 : PySem.W.codeIn K cd29 "are_kept" = true)
    (k29 : PySem.W.keepIn K (.ref f29) = true)
    (a30 : PySem.W.nsIn K mainGlobals "is_kept" = some (some (.ref f30)))
    (l30 : K.lookup f30 = some ⟨oc30, od30, .func (PySem.W.fnOf "is_kept" "is_kept" (defArgs s_is_kept) (defBody s_is_kept) (defScope s_is_kept) .none kV30 dc30 pm30 an30 cd30 ct30), sl30⟩)
    (c30 : PySem.W.codeIn K cd30 "is_kept" = true)
    (k30 : PySem.W.keepIn K (.ref f30) = true)
    (a31 : PySem.W.nsIn K mainGlobals "_are_members" = some (some (.ref f31)))
    (l31 : K.lookup f31 = some ⟨oc31, od31, .func (PySem.W.fnOf "_are_members" "_are_members" (defArgs s__are_members) (defBody s__are_members) (defScope s__are_members) .none kV31 dc31 pm31 an31 cd31 ct31), sl31⟩)
    (c31 : PySem.W.codeIn K cd31 "_are_members" = true)
    (k31 : PySem.W.keepIn K (.ref f31) = true)
    (a32 : PySem.W.nsIn K mainGlobals "check_lot" = some (some (.ref f32)))
    (l32 : K.lookup f32 = some ⟨oc32, od32, .func (PySem.W.fnOf "check_lot" "check_lot" (defArgs s_check_lot) (defBody s_check_lot) (defScope s_check_lot) .none kV32 dc32 pm32 an32 cd32 ct32), sl32⟩)
    (c32 : PySem.W.codeIn K cd32 "check_lot" = true)
    (k32 : PySem.W.keepIn K (.ref f32) = true)
    (a33 : PySem.W.nsIn K mainGlobals "check_round" = some (some (.ref f33)))
    (l33 : K.lookup f33 = some ⟨oc33, od33, .func (PySem.W.fnOf "check_round" "check_round" (defArgs s_check_round) (defBody s_check_round) (defScope s_check_round) .none kV33 dc33 pm33 an33 cd33 ct33), sl33⟩)
    (c33 : PySem.W.codeIn K cd33 "check_round" = true)
    (k33 : PySem.W.keepIn K (.ref f33) = true)
    (a34 : PySem.W.nsIn K mainGlobals "fits" = some (some (.ref f34)))
    (l34 : K.lookup f34 = some ⟨oc34, od34, .func (PySem.W.fnOf "fits" "fits" (defArgs s_fits) (defBody s_fits) (defScope s_fits) .none kV34 dc34 pm34 an34 cd34 ct34), sl34⟩)
    (c34 : PySem.W.codeIn K cd34 "fits" = true)
    (k34 : PySem.W.keepIn K (.ref f34) = true)
    (a35 : PySem.W.nsIn K mainGlobals "_read_hands" = some (some (.ref f35)))
    (l35 : K.lookup f35 = some ⟨oc35, od35, .func (PySem.W.fnOf "_read_hands" "_read_hands" (defArgs s__read_hands) (defBody s__read_hands) (defScope s__read_hands) .none kV35 dc35 pm35 an35 cd35 ct35), sl35⟩)
    (c35 : PySem.W.codeIn K cd35 "_read_hands" = true)
    (k35 : PySem.W.keepIn K (.ref f35) = true)
    (a36 : PySem.W.nsIn K mainGlobals "_read_works" = some (some (.ref f36)))
    (l36 : K.lookup f36 = some ⟨oc36, od36, .func (PySem.W.fnOf "_read_works" "_read_works" (defArgs s__read_works) (defBody s__read_works) (defScope s__read_works) .none kV36 dc36 pm36 an36 cd36 ct36), sl36⟩)
    (c36 : PySem.W.codeIn K cd36 "_read_works" = true)
    (k36 : PySem.W.keepIn K (.ref f36) = true)
    (a37 : PySem.W.nsIn K mainGlobals "_read_work" = some (some (.ref f37)))
    (l37 : K.lookup f37 = some ⟨oc37, od37, .func (PySem.W.fnOf "_read_work" "_read_work" (defArgs s__read_work) (defBody s__read_work) (defScope s__read_work) .none kV37 dc37 pm37 an37 cd37 ct37), sl37⟩)
    (c37 : PySem.W.codeIn K cd37 "_read_work" = true)
    (k37 : PySem.W.keepIn K (.ref f37) = true)
    (a38 : PySem.W.nsIn K mainGlobals "_read_number" = some (some (.ref f38)))
    (l38 : K.lookup f38 = some ⟨oc38, od38, .func (PySem.W.fnOf "_read_number" "_read_number" (defArgs s__read_number) (defBody s__read_number) (defScope s__read_number) .none kV38 dc38 pm38 an38 cd38 ct38), sl38⟩)
    (c38 : PySem.W.codeIn K cd38 "_read_number" = true)
    (k38 : PySem.W.keepIn K (.ref f38) = true)
    (a39 : PySem.W.nsIn K mainGlobals "_span_of" = some (some (.ref f39)))
    (l39 : K.lookup f39 = some ⟨oc39, od39, .func (PySem.W.fnOf "_span_of" "_span_of" (defArgs s__span_of) (defBody s__span_of) (defScope s__span_of) .none kV39 dc39 pm39 an39 cd39 ct39), sl39⟩)
    (c39 : PySem.W.codeIn K cd39 "_span_of" = true)
    (k39 : PySem.W.keepIn K (.ref f39) = true)
    (a40 : PySem.W.nsIn K mainGlobals "_total_of" = some (some (.ref f40)))
    (l40 : K.lookup f40 = some ⟨oc40, od40, .func (PySem.W.fnOf "_total_of" "_total_of" (defArgs s__total_of) (defBody s__total_of) (defScope s__total_of) .none kV40 dc40 pm40 an40 cd40 ct40), sl40⟩)
    (c40 : PySem.W.codeIn K cd40 "_total_of" = true)
    (k40 : PySem.W.keepIn K (.ref f40) = true)
    (a41 : PySem.W.nsIn K mainGlobals "accepts" = some (some (.ref f41)))
    (l41 : K.lookup f41 = some ⟨oc41, od41, .func (PySem.W.fnOf "accepts" "accepts" (defArgs s_accepts) (defBody s_accepts) (defScope s_accepts) .none kV41 dc41 pm41 an41 cd41 ct41), sl41⟩)
    (c41 : PySem.W.codeIn K cd41 "accepts" = true)
    (k41 : PySem.W.keepIn K (.ref f41) = true)
    (a42 : PySem.W.nsIn K mainGlobals "_has_table" = some (some (.ref f42)))
    (l42 : K.lookup f42 = some ⟨oc42, od42, .func (PySem.W.fnOf "_has_table" "_has_table" (defArgs s__has_table) (defBody s__has_table) (defScope s__has_table) .none kV42 dc42 pm42 an42 cd42 ct42), sl42⟩)
    (c42 : PySem.W.codeIn K cd42 "_has_table" = true)
    (k42 : PySem.W.keepIn K (.ref f42) = true)
    (a43 : PySem.W.nsIn K mainGlobals "_has_no_table" = some (some (.ref f43)))
    (l43 : K.lookup f43 = some ⟨oc43, od43, .func (PySem.W.fnOf "_has_no_table" "_has_no_table" (defArgs s__has_no_table) (defBody s__has_no_table) (defScope s__has_no_table) .none kV43 dc43 pm43 an43 cd43 ct43), sl43⟩)
    (c43 : PySem.W.codeIn K cd43 "_has_no_table" = true)
    (k43 : PySem.W.keepIn K (.ref f43) = true)
    (a44 : PySem.W.nsIn K mainGlobals "_is_empty" = some (some (.ref f44)))
    (l44 : K.lookup f44 = some ⟨oc44, od44, .func (PySem.W.fnOf "_is_empty" "_is_empty" (defArgs s__is_empty) (defBody s__is_empty) (defScope s__is_empty) .none kV44 dc44 pm44 an44 cd44 ct44), sl44⟩)
    (c44 : PySem.W.codeIn K cd44 "_is_empty" = true)
    (k44 : PySem.W.keepIn K (.ref f44) = true)
    (a45 : PySem.W.nsIn K mainGlobals "_lot_of" = some (some (.ref f45)))
    (l45 : K.lookup f45 = some ⟨oc45, od45, .func (PySem.W.fnOf "_lot_of" "_lot_of" (defArgs s__lot_of) (defBody s__lot_of) (defScope s__lot_of) .none kV45 dc45 pm45 an45 cd45 ct45), sl45⟩)
    (c45 : PySem.W.codeIn K cd45 "_lot_of" = true)
    (k45 : PySem.W.keepIn K (.ref f45) = true)
    (aC : PySem.W.nsIn K mainGlobals "Lot" = some (some (.ref C)))
    (aI : PySem.W.findIn K (.ref C) "__init__" = some (some (.ref fI)))
    (lI : K.lookup fI = some ⟨ocI, odI, .func (PySem.W.fnOf "__init__" "Lot.__init__" (defArgs s_Lot___init__) (defBody s_Lot___init__) (defScope s_Lot___init__) .none kVI dcI pmI anI cdI ctI), slI⟩)
    (cI : PySem.W.codeIn K cdI "Lot.__init__" = true)
    (kI : PySem.W.keepIn K (.ref fI) = true)
    (iI : PySem.W.isFn K (.ref fI) = true)
    (pg : PySem.W.plainGet K C Str.empty = true)
    (hd : PySem.W.hasDictIn K C = true)
    (po : PySem.W.plainOver K C = true)
    (sa : PySem.W.findIn K (.ref C) "__setattr__" = some (some (.builtin "object.__setattr__")))
    (mk : PySem.W.makesIn K C = true)
    (kc : PySem.W.keepIn K (.ref C) = true)
    (ca : PySem.W.findIn K (.ref C) "__class__" = some (some (.builtin "object.__class__")))
    (cb : PySem.W.specialIn K (.builtin "object.__class__") "__get__" = some (some (.builtin "getset_descriptor.__get__")))
    (cc : PySem.W.takesIn K (.builtin "object.__class__") = some true)
    (cm : PySem.W.mroIn K C (.type "object") = some true)
    (n0 : PySem.W.findIn K (.ref C) "_text" = some none)
    (n1 : PySem.W.findIn K (.ref C) "_hands" = some none)
    (n2 : PySem.W.findIn K (.ref C) "_names" = some none)
    (n3 : PySem.W.findIn K (.ref C) "_shares" = some none)
    (n4 : PySem.W.findIn K (.ref C) "_span" = some none)
    (n5 : PySem.W.findIn K (.ref C) "_total" = some none)
    (atPshares : PySem.W.findIn K (.ref C) "shares" = some (some (.ref pPshares)))
    (rePshares_ : PySem.W.recIn K pPshares "property" = some (.ref fPshares :: rePshares))
    (gePshares : PySem.W.specialIn K (.ref pPshares) "__get__" = some (some (.builtin "property.__get__")))
    (taPshares : PySem.W.takesIn K (.ref pPshares) = some true)
    (lPshares : K.lookup fPshares = some ⟨ocPshares, odPshares, .func (PySem.W.fnOf "shares" "Lot.shares" (defArgs s_Lot_shares) (defBody s_Lot_shares) (defScope s_Lot_shares) .none kVPshares dcPshares pmPshares anPshares cdPshares ctPshares), slPshares⟩)
    (cPshares : PySem.W.codeIn K cdPshares "Lot.shares" = true)
    (kPshares : PySem.W.keepIn K (.ref fPshares) = true)
    (atPspan : PySem.W.findIn K (.ref C) "span" = some (some (.ref pPspan)))
    (rePspan_ : PySem.W.recIn K pPspan "property" = some (.ref fPspan :: rePspan))
    (gePspan : PySem.W.specialIn K (.ref pPspan) "__get__" = some (some (.builtin "property.__get__")))
    (taPspan : PySem.W.takesIn K (.ref pPspan) = some true)
    (lPspan : K.lookup fPspan = some ⟨ocPspan, odPspan, .func (PySem.W.fnOf "span" "Lot.span" (defArgs s_Lot_span) (defBody s_Lot_span) (defScope s_Lot_span) .none kVPspan dcPspan pmPspan anPspan cdPspan ctPspan), slPspan⟩)
    (cPspan : PySem.W.codeIn K cdPspan "Lot.span" = true)
    (kPspan : PySem.W.keepIn K (.ref fPspan) = true)
    (atPhands : PySem.W.findIn K (.ref C) "hands" = some (some (.ref pPhands)))
    (rePhands_ : PySem.W.recIn K pPhands "property" = some (.ref fPhands :: rePhands))
    (gePhands : PySem.W.specialIn K (.ref pPhands) "__get__" = some (some (.builtin "property.__get__")))
    (taPhands : PySem.W.takesIn K (.ref pPhands) = some true)
    (lPhands : K.lookup fPhands = some ⟨ocPhands, odPhands, .func (PySem.W.fnOf "hands" "Lot.hands" (defArgs s_Lot_hands) (defBody s_Lot_hands) (defScope s_Lot_hands) .none kVPhands dcPhands pmPhands anPhands cdPhands ctPhands), slPhands⟩)
    (cPhands : PySem.W.codeIn K cdPhands "Lot.hands" = true)
    (kPhands : PySem.W.keepIn K (.ref fPhands) = true)
    (atPtotal : PySem.W.findIn K (.ref C) "total" = some (some (.ref pPtotal)))
    (rePtotal_ : PySem.W.recIn K pPtotal "property" = some (.ref fPtotal :: rePtotal))
    (gePtotal : PySem.W.specialIn K (.ref pPtotal) "__get__" = some (some (.builtin "property.__get__")))
    (taPtotal : PySem.W.takesIn K (.ref pPtotal) = some true)
    (lPtotal : K.lookup fPtotal = some ⟨ocPtotal, odPtotal, .func (PySem.W.fnOf "total" "Lot.total" (defArgs s_Lot_total) (defBody s_Lot_total) (defScope s_Lot_total) .none kVPtotal dcPtotal pmPtotal anPtotal cdPtotal ctPtotal), slPtotal⟩)
    (cPtotal : PySem.W.codeIn K cdPtotal "Lot.total" = true)
    (kPtotal : PySem.W.keepIn K (.ref fPtotal) = true)
    (lkL : PySem.W.nsIn K mainGlobals "LOOKS" = some (some (.ref AL)))
    (lkN : PySem.W.nsIn K mainGlobals "LENGTHS" = some (some (.ref AN)))
    (kdL : L2.KDict K w AL esL nL)
    (kdN : L2.KDict K w AN esN nN)
    (nsLF : PySem.W.nsIn K AL "fits" = some (some (.ref f42)))
    (nsNF : intIn70 K AN "fits" 1 = true)
    (nsLO : PySem.W.nsIn K AL "over" = some (some (.ref f43)))
    (nsNO : intIn70 K AN "over" 1 = true)
    (en8 : PySem.W.nsIn K mainGlobals "TooMany" = some (some (.ref e8)))
    (ev0 : PySem.W.nsIn K mainGlobals "WrongValue" = some (some (.ref v0)))
    (xcb : PySem.W.specialIn K (.builtin "object.__class__") "__get__" = some (some (.builtin "getset_descriptor.__get__")))
    (xcc : PySem.W.takesIn K (.builtin "object.__class__") = some true)
    (xei8 : PySem.W.excInitIn K e8 [.type "ArithmeticError", .type "Exception", .type "BaseException", .type "object"] "ArithmeticError.__new__" = true)
    (xeo8 : PySem.W.excOver K e8 [.type "ArithmeticError", .type "Exception", .type "BaseException", .type "object"] = true)
    (xsa8 : PySem.W.findIn K (.ref e8) "__setattr__" = some (some (.builtin "object.__setattr__")))
    (xga8 : PySem.W.findIn K (.ref e8) "__getattribute__" = some (some (.builtin "BaseException.__getattribute__")))
    (xgg8 : PySem.W.findIn K (.ref e8) "__getattr__" = some none)
    (xca8 : PySem.W.findIn K (.ref e8) "__class__" = some (some (.builtin "object.__class__")))
    (xno8 : PySem.W.findIn K (.ref e8) "limit" = some none)
    (xsb8 : PySem.W.subIn K (.ref e8) (.type "BaseException") = some true)
    (xty8 : PySem.W.typeIn K (.ref e8) = some (.type "type"))
    (xkc8 : PySem.W.keepIn K (.ref e8) = true)
    (xic8 : PySem.W.isClsIn K e8 = true)
    (xcm8 : PySem.W.mroIn K e8 (.type "object") = some true)
    (xhd8 : PySem.W.hasDictIn K e8 = true)
    (aX8 : PySem.W.findIn K (.ref e8) "__init__" = some (some (.ref fX8)))
    (lX8 : K.lookup fX8 = some ⟨ocX8, odX8, .func (PySem.W.fnOf "__init__" "TooMany.__init__" (defArgs s_TooMany___init__) (defBody s_TooMany___init__) (defScope s_TooMany___init__) .none kVX8 dcX8 pmX8 anX8 cdX8 ctX8), slX8⟩)
    (cX8 : PySem.W.codeIn K cdX8 "TooMany.__init__" = true)
    (kX8 : PySem.W.keepIn K (.ref fX8) = true)
    (xti8 : PySem.W.typeIn K (.ref fX8) = some (.type "function"))
    (xm : PySem.W.exmAny K (.ref e8) [.ref v0, .ref e8] = some true)
    (o0 : PySem.W.nsIn K mainGlobals "MOST_WORKS" = some (some (.int 6 t0)))
    (o1 : PySem.W.nsIn K mainGlobals "MOST_HANDS" = some (some (.int 6 t1)))
    (o2 : PySem.W.nsIn K mainGlobals "MOST_PERIOD" = some (some (.int 16 t2)))
    (o3 : PySem.W.nsIn K mainGlobals "LONGEST_NAME" = some (some (.int 8 t3)))
    (o4 : PySem.W.nsIn K mainGlobals "LETTERS" = some (some (.str (Str.ofString "abcdefghijklmnopqrstuvwxyz") t4)))
    (oMOST_ROUND : PySem.W.nsIn K mainGlobals "MOST_ROUND" = some (some (.int 720 tMOST_ROUND)))
    (zlen : PySem.W.nsIn K mainGlobals "len" = some none)
    (zrange : PySem.W.nsIn K mainGlobals "range" = some none)
    (zabs : PySem.W.nsIn K mainGlobals "abs" = some none)
    (zdivmod : PySem.W.nsIn K mainGlobals "divmod" = some none)
    (zint : PySem.W.nsIn K mainGlobals "int" = some none)
    (zstr : PySem.W.nsIn K mainGlobals "str" = some none)
    (zbool : PySem.W.nsIn K mainGlobals "bool" = some none)
    (zrepr : PySem.W.nsIn K mainGlobals "repr" = some none)
    (zisinstance : PySem.W.nsIn K mainGlobals "isinstance" = some none)
    (ztuple : PySem.W.nsIn K mainGlobals "tuple" = some none)
    (zlist : PySem.W.nsIn K mainGlobals "list" = some none)
    (zdict : PySem.W.nsIn K mainGlobals "dict" = some none)
    (zzip : PySem.W.nsIn K mainGlobals "zip" = some none)
    (zsum : PySem.W.nsIn K mainGlobals "sum" = some none)
    (zall : PySem.W.nsIn K mainGlobals "all" = some none)
    (zmax : PySem.W.nsIn K mainGlobals "max" = some none)
    (zmin : PySem.W.nsIn K mainGlobals "min" = some none)
    (zsorted : PySem.W.nsIn K mainGlobals "sorted" = some none)
    (zset : PySem.W.nsIn K mainGlobals "set" = some none)
    (zenumerate : PySem.W.nsIn K mainGlobals "enumerate" = some none)
    (g_gcd : PySem.W.nsIn K mainGlobals "gcd" = some (some (.builtin "math.gcd")))
    (g_lcm : PySem.W.nsIn K mainGlobals "lcm" = some (some (.builtin "math.lcm")))
    : ∃ fd : FuncData, (∀ (s : Shared) (u : Value), BindsTo s fd ⟨[u], []⟩ [("_law_script", u)]) ∧ ∀ base : Heap, FnG l.prog w K mg base 23 fa fd ["_law_script"] (spLaw K) := by
  have D__law_bag : DefAt K mg "_law_bag" s__law_bag := ⟨_, _, fun_mk l0 c0 k0, PySem.W.mg_of X G a0⟩
  have D__law_take : DefAt K mg "_law_take" s__law_take := ⟨_, _, fun_mk l1 c1 k1, PySem.W.mg_of X G a1⟩
  have D__law_of : DefAt K mg "_law_of" s__law_of := ⟨_, _, fun_mk l2 c2 k2, PySem.W.mg_of X G a2⟩
  have D__law_whole : DefAt K mg "_law_whole" s__law_whole := ⟨_, _, fun_mk l3 c3 k3, PySem.W.mg_of X G a3⟩
  have D__law_common : DefAt K mg "_law_common" s__law_common := ⟨_, _, fun_mk l4 c4 k4, PySem.W.mg_of X G a4⟩
  have D__law_share : DefAt K mg "_law_share" s__law_share := ⟨_, _, fun_mk l5 c5 k5, PySem.W.mg_of X G a5⟩
  have D__law_sum : DefAt K mg "_law_sum" s__law_sum := ⟨_, _, fun_mk l6 c6 k6, PySem.W.mg_of X G a6⟩
  have D__law_circle : DefAt K mg "_law_circle" s__law_circle := ⟨_, _, fun_mk l7 c7 k7, PySem.W.mg_of X G a7⟩
  have D__law_sheet : DefAt K mg "_law_sheet" s__law_sheet := ⟨_, _, fun_mk l8 c8 k8, PySem.W.mg_of X G a8⟩
  have D__law_world : DefAt K mg "_law_world" s__law_world := ⟨_, _, fun_mk l9 c9 k9, PySem.W.mg_of X G a9⟩
  have D__law_kept : DefAt K mg "_law_kept" s__law_kept := ⟨_, _, fun_mk l10 c10 k10, PySem.W.mg_of X G a10⟩
  have D__law_sets : DefAt K mg "_law_sets" s__law_sets := ⟨_, _, fun_mk l11 c11 k11, PySem.W.mg_of X G a11⟩
  have D__law_more : DefAt K mg "_law_more" s__law_more := ⟨_, _, fun_mk l12 c12 k12, PySem.W.mg_of X G a12⟩
  have D__law_border : DefAt K mg "_law_border" s__law_border := ⟨_, _, fun_mk l13 c13 k13, PySem.W.mg_of X G a13⟩
  have D__law_laps : DefAt K mg "_law_laps" s__law_laps := ⟨_, _, fun_mk l14 c14 k14, PySem.W.mg_of X G a14⟩
  have D__law_group : DefAt K mg "_law_group" s__law_group := ⟨_, _, fun_mk l15 c15 k15, PySem.W.mg_of X G a15⟩
  have D__law_key : DefAt K mg "_law_key" s__law_key := ⟨_, _, fun_mk l16 c16 k16, PySem.W.mg_of X G a16⟩
  have D__law_play : DefAt K mg "_law_play" s__law_play := ⟨_, _, fun_mk l17 c17 k17, PySem.W.mg_of X G a17⟩
  have D__law_said : DefAt K mg "_law_said" s__law_said := ⟨_, _, fun_mk l18 c18 k18, PySem.W.mg_of X G a18⟩
  have D__law_is_row : DefAt K mg "_law_is_row" s__law_is_row := ⟨_, _, fun_mk l19 c19 k19, PySem.W.mg_of X G a19⟩
  have D__law_bent_row : DefAt K mg "_law_bent_row" s__law_bent_row := ⟨_, _, fun_mk l20 c20 k20, PySem.W.mg_of X G a20⟩
  have D__law_any_row : DefAt K mg "_law_any_row" s__law_any_row := ⟨_, _, fun_mk l21 c21 k21, PySem.W.mg_of X G a21⟩
  have D__law_right : DefAt K mg "_law_right" s__law_right := ⟨_, _, fun_mk l22 c22 k22, PySem.W.mg_of X G a22⟩
  have D_law : DefAt K mg "law" s_law := ⟨_, _, fun_mk l23 c23 k23, PySem.W.mg_of X G a23⟩
  have D_is_number : DefAt K mg "is_number" s_is_number := ⟨_, _, fun_mk l24 c24 k24, PySem.W.mg_of X G a24⟩
  have D_is_number_from : DefAt K mg "is_number_from" s_is_number_from := ⟨_, _, fun_mk l25 c25 k25, PySem.W.mg_of X G a25⟩
  have D_is_name : DefAt K mg "is_name" s_is_name := ⟨_, _, fun_mk l26 c26 k26, PySem.W.mg_of X G a26⟩
  have D_is_share : DefAt K mg "is_share" s_is_share := ⟨_, _, fun_mk l27 c27 k27, PySem.W.mg_of X G a27⟩
  have D_keeps_all : DefAt K mg "keeps_all" s_keeps_all := ⟨_, _, fun_mk l28 c28 k28, PySem.W.mg_of X G a28⟩
  have D_are_kept : DefAt K mg "are_kept" s_are_kept := ⟨_, _, fun_mk l29 c29 k29, PySem.W.mg_of X G a29⟩
  have D_is_kept : DefAt K mg "is_kept" s_is_kept := ⟨_, _, fun_mk l30 c30 k30, PySem.W.mg_of X G a30⟩
  have D__are_members : DefAt K mg "_are_members" s__are_members := ⟨_, _, fun_mk l31 c31 k31, PySem.W.mg_of X G a31⟩
  have D_check_lot : DefAt K mg "check_lot" s_check_lot := ⟨_, _, fun_mk l32 c32 k32, PySem.W.mg_of X G a32⟩
  have D_check_round : DefAt K mg "check_round" s_check_round := ⟨_, _, fun_mk l33 c33 k33, PySem.W.mg_of X G a33⟩
  have D_fits : DefAt K mg "fits" s_fits := ⟨_, _, fun_mk l34 c34 k34, PySem.W.mg_of X G a34⟩
  have D__read_hands : DefAt K mg "_read_hands" s__read_hands := ⟨_, _, fun_mk l35 c35 k35, PySem.W.mg_of X G a35⟩
  have D__read_works : DefAt K mg "_read_works" s__read_works := ⟨_, _, fun_mk l36 c36 k36, PySem.W.mg_of X G a36⟩
  have D__read_work : DefAt K mg "_read_work" s__read_work := ⟨_, _, fun_mk l37 c37 k37, PySem.W.mg_of X G a37⟩
  have D__read_number : DefAt K mg "_read_number" s__read_number := ⟨_, _, fun_mk l38 c38 k38, PySem.W.mg_of X G a38⟩
  have D__span_of : DefAt K mg "_span_of" s__span_of := ⟨_, _, fun_mk l39 c39 k39, PySem.W.mg_of X G a39⟩
  have D__total_of : DefAt K mg "_total_of" s__total_of := ⟨_, _, fun_mk l40 c40 k40, PySem.W.mg_of X G a40⟩
  have D_accepts : DefAt K mg "accepts" s_accepts := ⟨_, _, fun_mk l41 c41 k41, PySem.W.mg_of X G a41⟩
  have D__has_table : DefAt K mg "_has_table" s__has_table := ⟨_, _, fun_mk l42 c42 k42, PySem.W.mg_of X G a42⟩
  have D__has_no_table : DefAt K mg "_has_no_table" s__has_no_table := ⟨_, _, fun_mk l43 c43 k43, PySem.W.mg_of X G a43⟩
  have D__is_empty : DefAt K mg "_is_empty" s__is_empty := ⟨_, _, fun_mk l44 c44 k44, PySem.W.mg_of X G a44⟩
  have D__lot_of : DefAt K mg "_lot_of" s__lot_of := ⟨_, _, fun_mk l45 c45 k45, PySem.W.mg_of X G a45⟩
  have B0 : Blt0 mg := ⟨PySem.W.mg_none_of X G zlen, PySem.W.mg_none_of X G zrange, PySem.W.mg_none_of X G zabs, PySem.W.mg_none_of X G zdivmod, PySem.W.mg_none_of X G zint, PySem.W.mg_none_of X G zstr, PySem.W.mg_none_of X G zbool, PySem.W.mg_none_of X G zrepr, PySem.W.mg_none_of X G zisinstance, PySem.W.mg_none_of X G ztuple, PySem.W.mg_none_of X G zlist, PySem.W.mg_none_of X G zdict, PySem.W.mg_none_of X G zzip, PySem.W.mg_none_of X G zsum, PySem.W.mg_none_of X G zall, PySem.W.mg_none_of X G zmax, PySem.W.mg_none_of X G zmin, PySem.W.mg_none_of X G zsorted, PySem.W.mg_none_of X G zset, PySem.W.mg_none_of X G zenumerate⟩
  have B : Blt mg := ⟨B0, PySem.W.mg_of X G g_gcd, PySem.W.mg_of X G g_lcm⟩
  have C2 : Cst mg := ⟨⟨_, PySem.W.mg_of X G o0⟩, ⟨_, PySem.W.mg_of X G o1⟩, ⟨_, PySem.W.mg_of X G o2⟩, ⟨_, PySem.W.mg_of X G o3⟩, ⟨_, PySem.W.mg_of X G o4⟩⟩
  have T : LotC K mg C := ⟨⟨pg, hd, po, sa⟩, n0, n1, n2, n3, n4, n5, PySem.W.mg_of X G aC⟩
  have I : LotI K C := ⟨ca, cb, cc, cm⟩
  have FI := fun_mk (st := s_Lot___init__) lI cI kI
  have F_shares := fun_mk (st := s_Lot_shares) lPshares cPshares kPshares
  have F_span := fun_mk (st := s_Lot_span) lPspan cPspan kPspan
  have F_hands := fun_mk (st := s_Lot_hands) lPhands cPhands kPhands
  have F_total := fun_mk (st := s_Lot_total) lPtotal cPtotal kPtotal
  obtain ⟨f, fd, F, hm⟩ := D_law.ex
  cases hfa.symm.trans hm
  refine ⟨fd, ?_, fun base => ?_⟩
  · obtain ⟨oc, od, kV, doc, pm, an, cdv, ct, osl, rfl, lk, hcd⟩ := F.ex
    exact fun s u => .of_eq rfl
  have XO8 : OexB K e8 := ⟨⟨_, _, _, _, PySem.F.excBase_ArithmeticError, PySem.F.store_ArithmeticError, xei8, xeo8⟩, xhd8, xsa8, xsb8, xty8, xkc8⟩
  have FX8 := fun_mk (st := s_TooMany___init__) lX8 cX8 kX8
  have T_TooMany : ErrB l.prog w K mg base "TooMany" e8 "limit" := ⟨XO8, xno8, PySem.W.mg_of X G en8, ⟨_, _, aX8, xti8, errB_init FX8 sc_TooMany___init__ XO8 xno8 (fun cdv A outer s H E => pss_one (ps_ostB (pv 0) (pv 1))), FX8.binds (fun _ _ _ _ _ _ us hl => match us, hl with | [_, _], _ => rfl)⟩⟩
  have p_shares : PropH l.prog w K mg base C "shares" "_shares" := prop_mk F_shares sc_Lot_shares rfl T.cl T.n4 ⟨atPshares, gePshares, taPshares, ⟨_, rePshares_⟩⟩ (fun _ _ _ _ _ _ us hl => match us, hl with | [_], _ => rfl)
  have p_span : PropH l.prog w K mg base C "span" "_span" := prop_mk F_span sc_Lot_span rfl T.cl T.n5 ⟨atPspan, gePspan, taPspan, ⟨_, rePspan_⟩⟩ (fun _ _ _ _ _ _ us hl => match us, hl with | [_], _ => rfl)
  have p_hands : PropH l.prog w K mg base C "hands" "_hands" := prop_mk F_hands sc_Lot_hands rfl T.cl T.n2 ⟨atPhands, gePhands, taPhands, ⟨_, rePhands_⟩⟩ (fun _ _ _ _ _ _ us hl => match us, hl with | [_], _ => rfl)
  have p_total : PropH l.prog w K mg base C "total" "_total" := prop_mk F_total sc_Lot_total rfl T.cl T.n6 ⟨atPtotal, gePtotal, taPtotal, ⟨_, rePtotal_⟩⟩ (fun _ _ _ _ _ _ us hl => match us, hl with | [_], _ => rfl)
  have h_numf := has_is_number_from (P := l.prog) (w := w) (base := base) D_is_number_from B
  have h_num := has_is_number D_is_number B h_numf
  have h_name := has_is_name (P := l.prog) (w := w) (base := base) D_is_name B C2
  have h_share := has_is_share D_is_share B C2 h_num
  have h_rnum := has_read_number (P := l.prog) (w := w) (base := base) D__read_number B
  have h_rhands := has_read_hands D__read_hands B C2 h_rnum
  have h_rwork := has_read_work D__read_work B C2 h_rnum h_name h_share
  have h_rworks := has_read_works D__read_works B h_rwork
  have h_span := has_span_of (P := l.prog) (w := w) (base := base) D__span_of B
  have h_total := has_total_of (P := l.prog) (w := w) (base := base) D__total_of B
  have hL : HasM l.prog w K mg base 6 C ["self", "text"] (spInit K C) := ⟨_, _, ⟨mk, aI, iI, kc⟩, ok_init FI T B C2 h_rhands h_rworks h_span h_total, FI.binds (ps := ["self", "text"]) fun _ _ _ _ _ _ us hl => match us, hl with | [_, _], _ => rfl⟩
  have MR : ∃ t, mg "MOST_ROUND" = some (.int 720 t) := ⟨_, PySem.W.mg_of X G oMOST_ROUND⟩
  have h_chk := has_check_lot (P := l.prog) (w := w) (base := base) D_check_lot B T I
  have h_fits : Has l.prog w K mg base 3 "fits" ["lot"] (spFits K C) := D_fits.has (fun _ _ _ _ _ _ us hl => match us, hl with | [_], _ => rfl) fun f fd F => ok_fits F T h_chk p_total p_hands
  have x_crnd := hx_check_round D_check_round T MR p_span T_TooMany
  have x_lotof := hx_lot_of53 D__lot_of B0 T hL x_crnd
  have h_numfA := has_is_number_fromA (P := l.prog) (w := w) (base := base) D_is_number_from B0
  have h_numA := has_is_numberA D_is_number B0 h_numfA
  have h_ikept := has_is_kept (P := l.prog) (w := w) (base := base) D_is_kept B0
  have h_akept := has_are_kept D_are_kept B0 h_ikept
  have h_amem := has_members D__are_members B0 h_numA
  have h_keeps := has_keeps_all D_keeps_all B0 h_akept h_amem
  have h_empty := has_is_empty (P := l.prog) (w := w) (base := base) D__is_empty B0
  have x_tab := hx_has_table D__has_table B0 T p_shares p_hands p_span x_lotof h_keeps
  have x_not := hx_has_no_table D__has_no_table B0 T h_empty x_lotof h_fits
  have hLF : HeldX l.prog w K mg base 9 f42 (spHasTableX K e8) := by
    obtain ⟨f9, fd9, F9, m9, k9, b9⟩ := x_tab.ex
    cases (PySem.W.mg_of X G a42).symm.trans m9
    exact ⟨fd9, _, F9, k9, b9⟩
  have dLF : KDct K w AL "fits" (.ref f42) := ⟨esL, nL, _, kdL.at_, kdL.lit, nsLF, rfl⟩
  obtain ⟨tNF, nsN4F⟩ := intIn70_at nsNF
  have dNF : KDct K w AN "fits" (.int (1 : Nat)) := ⟨esN, nN, _, kdN.at_, kdN.lit, nsN4F, ⟨_, rfl⟩⟩
  have hLO : HeldX l.prog w K mg base 9 f43 (spHasNoTableX K e8) := by
    obtain ⟨f9, fd9, F9, m9, k9, b9⟩ := x_not.ex
    cases (PySem.W.mg_of X G a43).symm.trans m9
    exact ⟨fd9, _, F9, k9, b9⟩
  have dLO : KDct K w AL "over" (.ref f43) := ⟨esL, nL, _, kdL.at_, kdL.lit, nsLO, rfl⟩
  obtain ⟨tNO, nsN4O⟩ := intIn70_at nsNO
  have dNO : KDct K w AN "over" (.int (1 : Nat)) := ⟨esN, nN, _, kdN.at_, kdN.lit, nsN4O, ⟨_, rfl⟩⟩
  have gWV : mg "WrongValue" = some (.ref v0) := PySem.W.mg_of X G ev0
  have gTM : mg "TooMany" = some (.ref e8) := PySem.W.mg_of X G en8
  have gLK : mg "LOOKS" = some (.ref AL) := PySem.W.mg_of X G lkL
  have gLN : mg "LENGTHS" = some (.ref AN) := PySem.W.mg_of X G lkN
  have h_acc : Has l.prog w K mg base 10 "accepts" ["claim", "certificate"] (spOr (spAccW K v0 e8 "fits" 1 (spHasTableX K e8)) (spAccW K v0 e8 "over" 1 (spHasNoTableX K e8))) := D_accepts.has (fun _ _ _ _ _ _ us hl => match us, hl with | [_, _], _ => rfl) fun f fd F => FnOk.or (ok_accepts F B0 gWV gTM gLK gLN kdL nsLF dLF dNF hLF (by decide)) (ok_accepts F B0 gWV gTM gLK gLN kdL nsLO dLO dNO hLO (by decide))
  have hq_acc : HasQ l.prog w K mg base 10 "accepts" ["claim", "certificate"] ["certificate", "claim"] back (spOr (spAccW K v0 e8 "fits" 1 (spHasTableX K e8)) (spAccW K v0 e8 "over" 1 (spHasNoTableX K e8))) := D_accepts.hasQ ["certificate", "claim"] back vals_back (fun _ _ _ _ _ _ us hl => match us, hl with | [_, _], _ => rfl) fun f fd F => FnOk.or (ok_accepts F B0 gWV gTM gLK gLN kdL nsLF dLF dNF hLF (by decide)) (ok_accepts F B0 gWV gTM gLK gLN kdL nsLO dLO dNO hLO (by decide))
  have h_said := has_said D__law_said B0 h_acc hq_acc (by decide)
  have h_take := has_take (P := l.prog) (w := w) (K := K) (base := base) D__law_take B0
  have h_of := has_one (K := K) D__law_of B0 h_take
  have h_common := has_common (P := l.prog) (w := w) (K := K) (base := base) D__law_common B0
  have h_shr := has_share_of2 (K := K) D__law_share B0 h_take h_of h_common
  have h_bag := has_bag (P := l.prog) (w := w) (base := base) D__law_bag B0
  have h_sum := has_sumB (P := l.prog) (w := w) (base := base) (K := K) D__law_sum B0 h_common
  have h_sheet := has_sheet (P := l.prog) (w := w) (base := base) (K := K) D__law_sheet B0
  have h_world := has_world D__law_world B0 h_take h_of h_shr h_sum
  have h_whole := has_whole (P := l.prog) (w := w) (base := base) D__law_whole B0
  have h_kept70 := has_kept70 (P := l.prog) (w := w) (base := base) D__law_kept B0
  have h_sets70 := has_sets70 (P := l.prog) (w := w) (base := base) (K := K) D__law_sets B0
  have h_more67 := has_more67 (P := l.prog) (w := w) (base := base) (K := K) D__law_more B0
  have h_moreJ := h_more67.imp plus67_J
  have h_circle := has_circle67 (P := l.prog) (w := w) (base := base) (K := K) D__law_circle B0 h_common
  have h_border := has_border67 (P := l.prog) (w := w) (base := base) (K := K) D__law_border
  have h_laps := has_laps67 D__law_laps h_border
  have h_group := has_group67 D__law_group B0 h_border h_laps
  have h_key := has_key67 D__law_key B0 h_border h_laps h_group
  have h_play := has_play67 D__law_play B0 h_border h_key h_more67
  have h_any70 := has_any_row70 D__law_any_row B0 h_of h_kept70 h_sets70 h_moreJ
  have h_bentr := has_bent_row70 D__law_bent_row B0 h_take h_of
  have h_isrow := has_is_row67 D__law_is_row B0 h_whole h_kept70 h_moreJ
  have h_right := has_right67 D__law_right B0 (SayFits.or (sayFits xm)) (SayOver.or (sayOver xm)) h_acc h_said h_take h_of h_sum h_circle h_sheet h_world h_play h_any70 h_bentr h_isrow
  exact ok_law67 (k := 2) F B (SayFits.or (sayFits xm)) (SayOver.or (sayOver xm)) h_acc h_bag h_right
theorem all_F {l : PySem.W.OpenLaw} {w : World} {K : PySem.W.Frag} {h : Heap} {mg : Str → Option Value} {fa : Addr} (X : K.In h) (G : h.Ns mainGlobals mg) (hfa : mg "law" = some (.ref fa)) (c : SaysF fnF tfF exF h K) (ct : TabsW tsF w K)
    : ∃ fd : FuncData, (∀ (s : Shared) (u : Value), BindsTo s fd ⟨[u], []⟩ [("_law_script", u)]) ∧ ∀ base : Heap, FnG l.prog w K mg base 23 fa fd ["_law_script"] (spLaw K) := by
  obtain ⟨_, _, kdL⟩ := ct.dict 0
  obtain ⟨_, _, kdN⟩ := ct.dict 1
  have m : exF K = true := c.more
  unfold exF at m
  obtain ⟨m0, m⟩ := He.ba m
  obtain ⟨a0, k0, a1, k1, a2, k2, a3, k3, a4, k4, a5, k5⟩ := of_decide_eq_true m0
  obtain ⟨m1, m⟩ := He.ba m
  obtain ⟨a6, k6, a7, k7, a8, k8, a9, k9, a10, k10, a11, k11⟩ := of_decide_eq_true m1
  obtain ⟨m2, m⟩ := He.ba m
  obtain ⟨a12, k12, a13, k13, a14, k14, a15, k15, a16, k16, a17, k17⟩ := of_decide_eq_true m2
  obtain ⟨m3, m⟩ := He.ba m
  obtain ⟨a18, k18, a19, k19, a20, k20, a21, k21, a22, k22, a23, k23⟩ := of_decide_eq_true m3
  obtain ⟨m4, m⟩ := He.ba m
  obtain ⟨a24, k24, a25, k25, a26, k26, a27, k27, a28, k28, a29, k29⟩ := of_decide_eq_true m4
  obtain ⟨m5, m⟩ := He.ba m
  obtain ⟨a30, k30, a31, k31, a32, k32, a33, k33, a34, k34, a35, k35⟩ := of_decide_eq_true m5
  obtain ⟨m6, m⟩ := He.ba m
  obtain ⟨a36, k36, a37, k37, a38, k38, a39, k39, a40, k40, a41, k41⟩ := of_decide_eq_true m6
  obtain ⟨m7, m⟩ := He.ba m
  obtain ⟨a42, k42, a43, k43, a44, k44, a45, k45, aC, aI, kI, iI⟩ := of_decide_eq_true m7
  obtain ⟨m8, m⟩ := He.ba m
  obtain ⟨pg, hd, po, sa, mk, kc, ca, cb, cc, cm, n0, n1⟩ := of_decide_eq_true m8
  obtain ⟨m9, m⟩ := He.ba m
  obtain ⟨n2, n3, n4, n5, atPshares, rePshares_, gePshares, taPshares, kPshares, atPspan, rePspan_, gePspan⟩ := of_decide_eq_true m9
  obtain ⟨m10, m⟩ := He.ba m
  obtain ⟨taPspan, kPspan, atPhands, rePhands_, gePhands, taPhands, kPhands, atPtotal, rePtotal_, gePtotal, taPtotal, kPtotal⟩ := of_decide_eq_true m10
  obtain ⟨m11, m⟩ := He.ba m
  obtain ⟨lkL, lkN, nsLF, nsNF, nsLO, nsNO, en8, ev0, xcb, xcc, xei8, xeo8⟩ := of_decide_eq_true m11
  obtain ⟨m12, m⟩ := He.ba m
  obtain ⟨xsa8, xga8, xgg8, xca8, xno8, xsb8, xty8, xkc8, xic8, xcm8, xhd8, aX8⟩ := of_decide_eq_true m12
  obtain ⟨m13, m⟩ := He.ba m
  obtain ⟨kX8, xti8, xm, o0, o1, o2, o3, o4, oMOST_ROUND, zlen, zrange, zabs⟩ := of_decide_eq_true m13
  obtain ⟨m14, m⟩ := He.ba m
  obtain ⟨zdivmod, zint, zstr, zbool, zrepr, zisinstance, ztuple, zlist, zdict, zzip, zsum, zall⟩ := of_decide_eq_true m14
  have m15 := m
  obtain ⟨zmax, zmin, zsorted, zset, zenumerate, g_gcd, g_lcm⟩ := of_decide_eq_true m15
  obtain ⟨oc0, od0, sl0, kV0, dc0, pm0, an0, cd0, ct0, l0, c0⟩ := c.def_ 0
  obtain ⟨oc1, od1, sl1, kV1, dc1, pm1, an1, cd1, ct1, l1, c1⟩ := c.def_ 1
  obtain ⟨oc2, od2, sl2, kV2, dc2, pm2, an2, cd2, ct2, l2, c2⟩ := c.def_ 2
  obtain ⟨oc3, od3, sl3, kV3, dc3, pm3, an3, cd3, ct3, l3, c3⟩ := c.def_ 3
  obtain ⟨oc4, od4, sl4, kV4, dc4, pm4, an4, cd4, ct4, l4, c4⟩ := c.def_ 4
  obtain ⟨oc5, od5, sl5, kV5, dc5, pm5, an5, cd5, ct5, l5, c5⟩ := c.def_ 5
  obtain ⟨oc6, od6, sl6, kV6, dc6, pm6, an6, cd6, ct6, l6, c6⟩ := c.def_ 6
  obtain ⟨oc7, od7, sl7, kV7, dc7, pm7, an7, cd7, ct7, l7, c7⟩ := c.def_ 7
  obtain ⟨oc8, od8, sl8, kV8, dc8, pm8, an8, cd8, ct8, l8, c8⟩ := c.def_ 8
  obtain ⟨oc9, od9, sl9, kV9, dc9, pm9, an9, cd9, ct9, l9, c9⟩ := c.def_ 9
  obtain ⟨oc10, od10, sl10, kV10, dc10, pm10, an10, cd10, ct10, l10, c10⟩ := c.def_ 10
  obtain ⟨oc11, od11, sl11, kV11, dc11, pm11, an11, cd11, ct11, l11, c11⟩ := c.def_ 11
  obtain ⟨oc12, od12, sl12, kV12, dc12, pm12, an12, cd12, ct12, l12, c12⟩ := c.def_ 12
  obtain ⟨oc13, od13, sl13, kV13, dc13, pm13, an13, cd13, ct13, l13, c13⟩ := c.def_ 13
  obtain ⟨oc14, od14, sl14, kV14, dc14, pm14, an14, cd14, ct14, l14, c14⟩ := c.def_ 14
  obtain ⟨oc15, od15, sl15, kV15, dc15, pm15, an15, cd15, ct15, l15, c15⟩ := c.def_ 15
  obtain ⟨oc16, od16, sl16, kV16, dc16, pm16, an16, cd16, ct16, l16, c16⟩ := c.def_ 16
  obtain ⟨oc17, od17, sl17, kV17, dc17, pm17, an17, cd17, ct17, l17, c17⟩ := c.def_ 17
  obtain ⟨oc18, od18, sl18, kV18, dc18, pm18, an18, cd18, ct18, l18, c18⟩ := c.def_ 18
  obtain ⟨oc19, od19, sl19, kV19, dc19, pm19, an19, cd19, ct19, l19, c19⟩ := c.def_ 19
  obtain ⟨oc20, od20, sl20, kV20, dc20, pm20, an20, cd20, ct20, l20, c20⟩ := c.def_ 20
  obtain ⟨oc21, od21, sl21, kV21, dc21, pm21, an21, cd21, ct21, l21, c21⟩ := c.def_ 21
  obtain ⟨oc22, od22, sl22, kV22, dc22, pm22, an22, cd22, ct22, l22, c22⟩ := c.def_ 22
  obtain ⟨oc23, od23, sl23, kV23, dc23, pm23, an23, cd23, ct23, l23, c23⟩ := c.def_ 23
  obtain ⟨oc24, od24, sl24, kV24, dc24, pm24, an24, cd24, ct24, l24, c24⟩ := c.def_ 24
  obtain ⟨oc25, od25, sl25, kV25, dc25, pm25, an25, cd25, ct25, l25, c25⟩ := c.def_ 25
  obtain ⟨oc26, od26, sl26, kV26, dc26, pm26, an26, cd26, ct26, l26, c26⟩ := c.def_ 26
  obtain ⟨oc27, od27, sl27, kV27, dc27, pm27, an27, cd27, ct27, l27, c27⟩ := c.def_ 27
  obtain ⟨oc28, od28, sl28, kV28, dc28, pm28, an28, cd28, ct28, l28, c28⟩ := c.def_ 28
  obtain ⟨oc29, od29, sl29, kV29, dc29, pm29, an29, cd29, ct29, l29, c29⟩ := c.def_ 29
  obtain ⟨oc30, od30, sl30, kV30, dc30, pm30, an30, cd30, ct30, l30, c30⟩ := c.def_ 30
  obtain ⟨oc31, od31, sl31, kV31, dc31, pm31, an31, cd31, ct31, l31, c31⟩ := c.def_ 31
  obtain ⟨oc32, od32, sl32, kV32, dc32, pm32, an32, cd32, ct32, l32, c32⟩ := c.def_ 32
  obtain ⟨oc33, od33, sl33, kV33, dc33, pm33, an33, cd33, ct33, l33, c33⟩ := c.def_ 33
  obtain ⟨oc34, od34, sl34, kV34, dc34, pm34, an34, cd34, ct34, l34, c34⟩ := c.def_ 34
  obtain ⟨oc35, od35, sl35, kV35, dc35, pm35, an35, cd35, ct35, l35, c35⟩ := c.def_ 35
  obtain ⟨oc36, od36, sl36, kV36, dc36, pm36, an36, cd36, ct36, l36, c36⟩ := c.def_ 36
  obtain ⟨oc37, od37, sl37, kV37, dc37, pm37, an37, cd37, ct37, l37, c37⟩ := c.def_ 37
  obtain ⟨oc38, od38, sl38, kV38, dc38, pm38, an38, cd38, ct38, l38, c38⟩ := c.def_ 38
  obtain ⟨oc39, od39, sl39, kV39, dc39, pm39, an39, cd39, ct39, l39, c39⟩ := c.def_ 39
  obtain ⟨oc40, od40, sl40, kV40, dc40, pm40, an40, cd40, ct40, l40, c40⟩ := c.def_ 40
  obtain ⟨oc41, od41, sl41, kV41, dc41, pm41, an41, cd41, ct41, l41, c41⟩ := c.def_ 41
  obtain ⟨oc42, od42, sl42, kV42, dc42, pm42, an42, cd42, ct42, l42, c42⟩ := c.def_ 42
  obtain ⟨oc43, od43, sl43, kV43, dc43, pm43, an43, cd43, ct43, l43, c43⟩ := c.def_ 43
  obtain ⟨oc44, od44, sl44, kV44, dc44, pm44, an44, cd44, ct44, l44, c44⟩ := c.def_ 44
  obtain ⟨oc45, od45, sl45, kV45, dc45, pm45, an45, cd45, ct45, l45, c45⟩ := c.def_ 45
  obtain ⟨ocI, odI, slI, kVI, dcI, pmI, anI, cdI, ctI, lI, cI⟩ := c.def_ 46
  obtain ⟨ocPshares, odPshares, slPshares, kVPshares, dcPshares, pmPshares, anPshares, cdPshares, ctPshares, lPshares, cPshares⟩ := c.def_ 47
  obtain ⟨ocPspan, odPspan, slPspan, kVPspan, dcPspan, pmPspan, anPspan, cdPspan, ctPspan, lPspan, cPspan⟩ := c.def_ 48
  obtain ⟨ocPhands, odPhands, slPhands, kVPhands, dcPhands, pmPhands, anPhands, cdPhands, ctPhands, lPhands, cPhands⟩ := c.def_ 49
  obtain ⟨ocPtotal, odPtotal, slPtotal, kVPtotal, dcPtotal, pmPtotal, anPtotal, cdPtotal, ctPtotal, lPtotal, cPtotal⟩ := c.def_ 50
  obtain ⟨ocX8, odX8, slX8, kVX8, dcX8, pmX8, anX8, cdX8, ctX8, lX8, cX8⟩ := c.def_ 51
  exact all_mk X G hfa a0 l0 c0 k0 a1 l1 c1 k1 a2 l2 c2 k2 a3 l3 c3 k3 a4 l4 c4 k4 a5 l5 c5 k5 a6 l6 c6 k6 a7 l7 c7 k7 a8 l8 c8 k8 a9 l9 c9 k9 a10 l10 c10 k10 a11 l11 c11 k11 a12 l12 c12 k12 a13 l13 c13 k13 a14 l14 c14 k14 a15 l15 c15 k15 a16 l16 c16 k16 a17 l17 c17 k17 a18 l18 c18 k18 a19 l19 c19 k19 a20 l20 c20 k20 a21 l21 c21 k21 a22 l22 c22 k22 a23 l23 c23 k23 a24 l24 c24 k24 a25 l25 c25 k25 a26 l26 c26 k26 a27 l27 c27 k27 a28 l28 c28 k28 a29 l29 c29 k29 a30 l30 c30 k30 a31 l31 c31 k31 a32 l32 c32 k32 a33 l33 c33 k33 a34 l34 c34 k34 a35 l35 c35 k35 a36 l36 c36 k36 a37 l37 c37 k37 a38 l38 c38 k38 a39 l39 c39 k39 a40 l40 c40 k40 a41 l41 c41 k41 a42 l42 c42 k42 a43 l43 c43 k43 a44 l44 c44 k44 a45 l45 c45 k45 aC aI lI cI kI iI pg hd po sa mk kc ca cb cc cm n0 n1 n2 n3 n4 n5 atPshares rePshares_ gePshares taPshares lPshares cPshares kPshares atPspan rePspan_ gePspan taPspan lPspan cPspan kPspan atPhands rePhands_ gePhands taPhands lPhands cPhands kPhands atPtotal rePtotal_ gePtotal taPtotal lPtotal cPtotal kPtotal lkL lkN kdL kdN nsLF nsNF nsLO nsNO en8 ev0 xcb xcc xei8 xeo8 xsa8 xga8 xgg8 xca8 xno8 xsb8 xty8 xkc8 xic8 xcm8 xhd8 aX8 lX8 cX8 kX8 xti8 xm o0 o1 o2 o3 o4 oMOST_ROUND zlen zrange zabs zdivmod zint zstr zbool zrepr zisinstance ztuple zlist zdict zzip zsum zall zmax zmin zsorted zset zenumerate g_gcd g_lcm
end Ts
open PySem PySem.W PyProof.Rows
set_option maxRecDepth 100000 in
set_option maxHeartbeats 0 in
theorem PySem.Challenge.cw_tickshares_k67_whole_tables_judged_holds : PySem.Challenge.rw_tickshares_k67_whole_tables_judged.Holds := by
  w_on; o_law
  refine HandSHeadRun.head_imp (r := Ts.rwF) (q := Ts.vwF) (H := Ts.hookW Ts.asF Ts.fnF Ts.tfF Ts.exF Ts.tsF) (M := 20000) (loose := Ts.nmF) (d := HandSHeadRun.topDef Ts.rwF.prog 119) (kwd := []) Ts.viewW_eq Ts.runF
    (by kernel_rfl) (by kernel_rfl) (by kernel_rfl) (by rfl) (by first | assumption | decide +kernel) (by decide +kernel) ⟨rfl, rfl, rfl, rfl, rfl, by decide +kernel⟩ ?hw ?hc
  case hw => w_witness2
  case hc =>
    refine Ts.walk_GF (l := PySem.Challenge.rw_tickshares_k67_whole_tables_judged) (k := 23) (x := "_law_script") rfl (by kernel_rfl) ⟨rfl, by decide, by decide⟩ ?F
    intro w mg fa h Y G hmg
    obtain ⟨K, KX, c, ct⟩ := Y
    have hm : mg ("law" : Str) = some (.ref fa) := by
      have e : (HandSHeadRun.topDef Ts.rwF.prog 119).name = ("law" : Str) := by kernel_rfl
      rw [← e]; exact hmg
    obtain ⟨fd, hb, hF⟩ := Ts.all_F KX G hm c ct
    exact ⟨K, fd, KX, hb, hF⟩
