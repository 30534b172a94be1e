import PyProof.Rows.All
import Wide.All
import OpenK.AllK
import Wide.FinOn
import HandS.ForMost
import HandS.ForExc
import HandS.IsInst
import HandS.MakeKwOnly
import HandS.ClsMeth
import HandS.Conv
import HandS.Codes
import HandS.Walk
import HandS.Style
import HandS.Flow
import HandS.Wide
import HandS.OwnEq
import HandS.OwnIter
import HandS.IterVal
import KE.KOwnIter
import PyProof.FactsAll.tuple_iterator_1
import HandS.Deep
import HandS.SortRule
import KE.GoesMore
import KE.GoesEnum
import KE.KLam
import KE.DataMinKey
import HandS.Base
import HandS.Call
import HandS.List
import HandS.Comp
import HandS.Lambda
import HandS.Nested
import HandS.Keys
import HandS.SortInts
import PyProof.NeKinds
import HandS.SetFor
import HandS.Strs
import HandS.TupSets
import KE.SortData
import HandS.Gcd
import KE.KMathGC
import HandS.Sort
import PyProof.AutoSeq1
import KE.KTurns
import HandS.TupLe
import KE.KSortTup
import HandS.TupAny
import HandS.EndTab
import HandS.Rev
import PySem.Challenge.RW_heaprows_k52_whole_closed_sets
set_option Elab.async false
set_option maxRecDepth 100000
set_option Elab.async false
set_option linter.all false
set_option maxRecDepth 100000
set_option maxHeartbeats 2000000
namespace Tw
open PySem PySem.Spec PyProof.Rows L2

/-! own rules: an instance with dunder methods -/
/-- a dunder method of the class at C, its def at f -/
structure Dn (K : PySem.W.Frag) (C : Addr) (m : Str) (f : Addr) : Prop where
  at_ : PySem.W.findIn K (.ref C) m = some (some (.ref f))
  fn : PySem.W.isFn K (.ref f) = true
  fi : PySem.W.fnIn K f = true


section
variable {X : Cx} {CX : CXT} {k n : Nat} {f C : Addr} {fd : FuncData} {ps : List Str} {sp : Sp} {E : XK} {o e : Expr} {pos : Pos} {ta tb : TE} {A1 : Around}
  {pins : List (Addr × Obj)} {σ : L2.St} {H : Hp} {s : Shared} {Q : VK}
theorem Sub.env0 (sb : Sub X n A1) (I : Inv X pins σ H s) : Env0 X.prog X.w X.K X.mg X.base A1 X.stack s H := by
  have q := I.env0
  exact ⟨by rw [sb.fr]; exact q.frames, q.mod, q.bs, q.bsz, q.funs, q.frf, q.hok, q.bare⟩
theorem run_sub {us : List Value} {vs : List V} (F : FnOk X.prog X.w X.K X.mg X.base CX k f fd ps sp) (sb : Sub X k A1) (hb : Binds X.K fd ps []) (hx : Passes CX X E) (I : Inv X pins σ H s) (r : Vals vs us) (h : sp vs H Q E) :
    wpAny (model X.prog X.w) A1 (call (.ref f) us) (EP X pins σ Q) X.xe s := by
  have hl : us.length = ps.length := by rw [← r.length]; exact F.len _ _ _ _ h
  have hb1 : BindsTo s fd ⟨us, []⟩ (ps.zip us) := by
    have z := hb s us I.kIn (by rw [List.append_nil]; exact hl)
    rw [List.append_nil] at z
    exact z
  refine wpAny_call (codeAny_mono (F.run A1 X.stack s H ⟨us, []⟩ us vs Q E sb.room (Sub.env0 sb I) hb1 r h) fun z s' hq => ?_)
  match z, hq with
  | .error e, hq => exact hx pins σ H s e s' I hq
  | .ok (.ret u), hq => exact I.after hq
  | .ok .next, hq => exact False.elim hq
  | .ok .brk, hq => exact False.elim hq
  | .ok .cont, hq => exact False.elim hq
theorem relR (a : Addr) : RelV (V.ref a) (Value.ref a) := rfl
theorem relB (b : Bool) : RelV (V.bl b) (Value.bool b) := rfl
theorem relI (i : Int) (t : Tok) : RelV (V.int i) (Value.int i t) := ⟨t, rfl⟩
/-- o[e] by the class's own def -/
def tGi (C : Addr) (sp : Sp) (E : XK) (ta tb : TE) : TE := fun σ H Q => ta σ H fun x H1 => tb σ H1 fun y H2 =>
  ∃ a dx fs, x = .ref a ∧ H2 a = some (.ins C dx fs) ∧ sp [.ref a, y] H2 Q E
theorem pe_gi (hd : Dn X.K C "__getitem__" f) (F : FnOk X.prog X.w X.K X.mg X.base CX k f fd ps sp) (hr : Room (k + 1) X.A) (hb : Binds X.K fd ps []) (hx : Passes CX X E) (ho : PE X o ta) (he : PE X e tb)
    (hs : ∀ v u, subscripted e true v u = runValue (.builtin "lifetime.subscript" ⟨[v, u], []⟩) := by intro _ _; with_unfolding_all rfl) :
    PE X (.Subscript o e pos) (tGi C sp E ta tb) := by
  refine ⟨fun pins s σ H Q I h => ?_⟩
  refine Subscript_ (binT ho he (R := fun x y H2 => ∃ a dx fs, x = .ref a ∧ H2 a = some (.ins C dx fs) ∧ sp [.ref a, y] H2 Q E) I h fun v u s2 x y H2 I2 rx ry ⟨a, dx, fs, ex, ha, q⟩ => ?_)
  subst ex
  obtain rfl : v = Value.ref a := rx
  obtain ⟨mA, O, rr, _, _, _⟩ := ins_get I2.hok ha
  obtain ⟨od, J, hl⟩ := O.look
  obtain ⟨m0, hF⟩ := I2.fr
  exact PySem.W.sub_K hF I2.ok.mod.kin J hd.at_ hd.fi hd.fn (run_sub F (Sub.in1 ⟨hr, rfl⟩) hb hx I2 (.cons (relR a) (.cons ry .nil)) q) (hs _ _)
/-- e in o, by the class's own def -/
def rIn (C : Addr) (sp : Sp) (E : XK) (neg : Bool) : R2 := fun x y H Q =>
  ∃ a dx fs, y = .ref a ∧ H a = some (.ins C dx fs) ∧ sp [.ref a, x] H (fun v H' => ∃ b, v = .bl b ∧ Q (.bl (if neg then !b else b)) H') E
theorem op_in_own (hd : Dn X.K C "__contains__" f) (F : FnOk X.prog X.w X.K X.mg X.base CX k f fd ps sp) (hr : Room k X.A) (hb : Binds X.K fd ps []) (hx : Passes CX X E) : OpR X (compareOp .In) (rIn C sp E false) := by
  intro pins s σ H x y v u Q I rx ry ⟨a, dx, fs, ey, ha, q⟩
  subst ey
  obtain rfl : u = Value.ref a := ry
  obtain ⟨mA, O, rr, _, _, _⟩ := ins_get I.hok ha
  obtain ⟨od, J, hl⟩ := O.look
  obtain ⟨m0, hF⟩ := I.fr
  refine PySem.W.in_K hF I.ok.mod.kin J hd.at_ hd.fn (thn (run_sub F ⟨hr, rfl⟩ hb hx I (.cons (relR a) (.cons rx .nil)) q) fun r s' ⟨z, H', I', rz, b, ez, q'⟩ => ?_)
  subst ez
  obtain rfl : r = Value.bool b := rz
  exact wpAny_truthy_bool ⟨_, _, I', relB b, q'⟩
/-- len(o) by the class's own def -/
def rLenO (C : Addr) (sp : Sp) (E : XK) : List V → Hp → VK → Prop := fun xs H Q =>
  ∃ a dx fs, xs = [.ref a] ∧ H a = some (.ins C dx fs) ∧ sp [.ref a] H (fun v H' => ∃ n : Nat, v = .int n ∧ n < 1000 ∧ Q (.int n) H') E
theorem call_len_own (hd : Dn X.K C "__len__" f) (F : FnOk X.prog X.w X.K X.mg X.base CX k f fd ps sp) (hr : Room (k + 1) X.A) (hb : Binds X.K fd ps []) (hx : Passes CX X E) : CallR X (.builtin "len") (rLenO C sp E) := by
  intro pins s σ H xs us Q I rv ⟨a, dx, fs, ex, ha, q⟩
  subst ex
  obtain ⟨u, rfl, ru⟩ := rv.one
  obtain rfl : u = Value.ref a := ru
  obtain ⟨mA, O, rr, _, _, _⟩ := ins_get I.hok ha
  obtain ⟨od, J, hl⟩ := O.look
  obtain ⟨m0, hF⟩ := I.fr
  refine PySem.W.len_K hF I.ok.mod.kin J hd.at_ hd.fn (thn (run_sub F (Sub.in1 ⟨hr, rfl⟩) hb hx I (.cons (relR a) .nil) q) fun r s' ⟨z, H', I', rz, n, ez, hn, q'⟩ => ?_)
  subst ez
  obtain ⟨t, rfl⟩ := rz
  exact ⟨⟨by omega, by omega⟩, _, _, I'.tok _, relI _ _, q'⟩
end

/-! for x in o, o an instance whose __iter__ says: return iter(self.F), F a tuple -/
def itTup (t : Addr) (i : Nat) : Obj := { cls := .type "tuple_iterator", data := .fields #[.ref t, .int (i : Nat) 0] }
def ItT (t it : Addr) (i : Nat) : HO := .ext fun h => h.get? it = some (itTup t i)
def rIterT (K : PySem.W.Frag) (n : Nat) : List V → Hp → VK → Prop := fun xs H Q => ∃ (t : Addr) (zs : List V), xs = [.ref t] ∧ SqT K H t zs ∧ ∀ it, H it = Option.none → n ≤ it → Q (.ref it) (upd H it (ItT t it 0))
section
variable {X : Cx}
theorem call_iterT : CallR X (.builtin "iter") (rIterT X.K X.s_0.heap.objs.size) := by
  intro pins s σ H xs us Q I r ⟨t, zs, e, hq, q⟩
  subst e
  obtain ⟨u, rfl, ru⟩ := r.one
  obtain rfl : u = Value.ref t := ru
  obtain ⟨its, rv, pl, hz⟩ := I.tuple hq
  refine Calls.call_function_entry (by decide +kernel) (by decide +kernel) PySem.W.kdk_entry_iter (PySem.W.kdk_args_iter _) ?_
  unfold Builtin.«iter»
  refine wpAny_bind (m := someArgs "iter" 1 2 _) (wpAny_of_eq (a := [Value.ref t]) (by first | rfl | kernel_rfl!) ?_)
  show wpAny _ _ (pyIter (.ref t) >>= _) _ _ _
  refine wpAny_bind (wpAny_pyIter_tuple (show s.heap.IsTuple t its.toArray from pl) ?_)
  have g : (s.heap.push (itTup t 0)).get? s.heap.objs.size = some (itTup t 0) := Heap.get?_push_size _ rfl
  have ok : ObjOk X.prog X.w (upd H s.heap.objs.size (ItT t s.heap.objs.size 0)) (s.heap.push (itTup t 0)) s.heap.objs.size (ItT t s.heap.objs.size 0) := ⟨g, ⟨_, g⟩, fun _ _ q k => k _ q⟩
  exact wpAny_pure ⟨_, rfl, .ref s.heap.objs.size, _, I.laid (t' := s.toks) (fun b u e => Heap.get?_push_of_some _ e) (Nat.le_refl _) ok, relR _, q _ (I.hok.fresh (Nat.le_refl _)) I.sz⟩
end

/-- a promise that may speak of how many objects there are when the def is called -/
def FnIt (P : Program) (w : World) (K : PySem.W.Frag) (mg : Str → Option Value) (base : Heap) (k : Nat) (f : Addr) (fd : FuncData) (ps : List Str) (sp : Nat → List V → Hp → VK → Prop) : Prop :=
  ∀ (A : Around) (outer : List Env) (s : Shared) (H : Hp) (us : List Value) (vs : List V) (Q : VK), Room k A → Env0 P w K mg base A outer s H → BindsTo s fd ⟨us, []⟩ (ps.zip us) → vs.length = ps.length → Vals vs us →
    sp s.heap.objs.size vs H Q → codeAny (model P w) A (.call (.ref f) ⟨us, []⟩) (CR CX0 outer P w H s Q E0) s
section
variable {P : Program} {w : World} {K : PySem.W.Frag} {mg : Str → Option Value} {base : Heap}
theorem fnIt_of {x qual : Str} {st : Stmt} {f : Addr} {fd : FuncData} {N ps : List Str} {k : Nat} {sp : Nat → List V → Hp → VK → Prop} (F : Fun K x qual st f fd) (S : FnScope N ps (defScope st))
    (hbody : ∀ (cdv : Value) (A : Around) (outer : List Env) (s : Shared) (H : Hp) (vs : List V) (Q : VK), Room k (A.deeper (envOfC qual (defScope st) s.heap.objs.size f cdv)) → sp s.heap.objs.size vs H Q →
      ∃ t, PSs (cxOf CX0 P w K mg base N qual (defScope st) f cdv A outer s H E0).nox (defBody st) t ∧ t { nx := fun _ H' => Q .non H', rt := Q } (start N vs) H) : FnIt P w K mg base (k + 1) f fd ps sp := by
  obtain ⟨oc, od, kV, doc, pm, an, cdv, ct, osl, rfl, lk, hcd⟩ := F.ex
  intro A outer s H us vs Q hr e0 hb hl r hsp
  have kin : K.In s.heap := e0.mod.kin.keeps fun b o e => (e0.bs b o e).1
  have lim : s.heap.NoLimit := e0.mod.nolimit.keeps fun b o e => (e0.bs b o e).1
  have kinds : ∀ y ∈ ps.zip us, (defScope st).names.lookup y.1 = some .local ∨ ((defScope st).names.lookup y.1 = some .cell ∧ ((cellsFrom (s.heap.objs.size + 1) (defScope st).names []).lookup y.1).isSome = true) := by
    intro y hy
    cases S.par y.1 (List.of_mem_zip (a := y.1) (b := y.2) hy).1 with
    | inl q => exact .inl q
    | inr q => exact .inr ⟨q, PySem.W.cellsFrom_some _ _ _ (.inl q)⟩
  apply codeAny_call_function hr.depth (kin _ _ lk) rfl S.co S.gen rfl (PySem.W.codeRec_of kin hcd) (hb _ _ _ _ ?_)
  apply wpAny_newFunctionEnv_cells S.kind kinds
  intro env he s1 x
  subst he
  refine ⟨lim.keeps x.toInCall.keep, codeAny_func ?_⟩
  obtain ⟨t, ht, hq⟩ := hbody cdv A outer s H vs Q (hr.deeper _) hsp
  have I := inv_start (CX := CX0) (P := P) (w := w) (E := E0) (cd := cdv) (qual := qual) (f := f) (outer := outer) S hr.hd e0 hl r x
  refine wpAny_mono (ht.nox.run [] s1 (start N vs) H _ I hq) (fun fl s' hs => ?_) fun e s' hs => hs
  match fl, hs with
  | .ret u, ⟨v, σ', H', J, rv, q⟩ => exact ⟨v, H', J.os, J.bare, J.base, J.hok, rv, q⟩
  | .next, ⟨σ', H', J, q⟩ => exact ⟨V.non, H', J.os, J.bare, J.base, J.hok, rfl, q⟩
  | .brk, ⟨_, _, _, q⟩ => exact False.elim q
  | .cont, ⟨_, _, _, q⟩ => exact False.elim q
end
/-- what such an __iter__ promises -/
def spIter (K : PySem.W.Frag) (C : Addr) (fld : Str) : Nat → List V → Hp → VK → Prop := fun n vs H Q => ∃ a dx fs t zs, vs = [.ref a] ∧ H a = some (.ins C dx fs) ∧ fs.lookup fld = some (.ref t) ∧ SqT K H t zs ∧
  ∀ it, H it = Option.none → n ≤ it → Q (.ref it) (upd H it (ItT t it 0))
/-- x in o, for a loop: o's own tuple is walked -/
def iOwn (K : PySem.W.Frag) (C : Addr) (fld : Str) (to : TE) : TI := fun σ H R => to σ H fun x H1 => ∃ a dx fs t zs, x = .ref a ∧ H1 a = some (.ins C dx fs) ∧ fs.lookup fld = some (.ref t) ∧ SqT K H1 t zs ∧ R (Itt K t) H1
section
variable {X : Cx} {k : Nat} {f C : Addr} {fd : FuncData} {fld : Str} {tg o : Expr} {to : TE} {pins : List (Addr × Obj)} {σ : L2.St} {H : Hp} {s : Shared} {A1 : Around}
theorem run_iter {a t dx : Addr} {fs : List (Str × V)} {zs : List V} (F : FnIt X.prog X.w X.K X.mg X.base k f fd ["self"] (spIter X.K C fld)) (sb : Sub X k A1) (hb : Binds X.K fd ["self"] []) (I : Inv X pins σ H s)
    (ha : H a = some (.ins C dx fs)) (hf : fs.lookup fld = some (.ref t)) (ht : SqT X.K H t zs) {E : Value → Shared → Prop} :
    wpAny (model X.prog X.w) A1 (call (.ref f) [.ref a]) (fun u s' => ∃ it, u = .ref it ∧ s.heap.objs.size ≤ it ∧ H it = Option.none ∧ Inv X pins σ (upd H it (ItT t it 0)) s') E s := by
  have hb1 : BindsTo s fd ⟨[.ref a], []⟩ ((["self"] : List Str).zip [Value.ref a]) := by
    have z := hb s [.ref a] I.kIn rfl
    exact z
  refine wpAny_call (codeAny_mono (F A1 X.stack s H [.ref a] [.ref a] (fun v H' => ∃ it, v = .ref it ∧ s.heap.objs.size ≤ it ∧ H it = Option.none ∧ H' = upd H it (ItT t it 0)) sb.room (Sub.env0 sb I) hb1 rfl (.cons (relR a) .nil)
    ⟨a, dx, fs, t, zs, rfl, ha, hf, ht, fun it h0 hn => ⟨it, rfl, hn, h0, rfl⟩⟩) fun z s' hq => ?_)
  match z, hq with
  | .error e, hq => exact hq.elim
  | .ok (.ret u), hq =>
    obtain ⟨v, H', I', rv, it, ev, hn, h0, eH⟩ := I.after hq
    subst ev
    rw [eH] at I'
    obtain rfl : u = Value.ref it := rv
    exact ⟨it, rfl, hn, h0, I'⟩
  | .ok .next, hq => exact False.elim hq
  | .ok .brk, hq => exact False.elim hq
  | .ok .cont, hq => exact False.elim hq
theorem pi_own (hd : Dn X.K C "__iter__" f) (F : FnIt X.prog X.w X.K X.mg X.base k f fd ["self"] (spIter X.K C fld)) (hr : Room k X.A) (hb : Binds X.K fd ["self"] []) (ho : PE X o to) : PI X tg o (iOwn X.K C fld to) := by
  refine ⟨fun pins s σ H R I h => ?_⟩
  refine thn (ho.run pins s σ H _ I h) fun u s1 ⟨x, H1, I1, rx, a, dx, fs, t, zs, ex, ha, hf, ht, q⟩ => ?_
  subst ex
  obtain rfl : u = Value.ref a := rx
  obtain ⟨mA, O, rr, _, _, _⟩ := ins_get I1.hok ha
  obtain ⟨od, J, hl⟩ := O.look
  obtain ⟨m0, hF⟩ := I1.fr
  refine PySem.W.owit_iter hF I1.ok.mod.kin J hd.at_ hd.fn (thn (run_iter F ⟨hr, rfl⟩ hb I1 ha hf ht) fun r s2 ⟨it, er, hn, h0, I2⟩ => ?_)
  subst er
  have e2 : upd H1 it (ItT t it 0) it = some (ItT t it 0) := upd_same
  have g : s2.heap.get? it = some (itTup t 0) := (I2.hok it _ e2).1
  have hT : s2.TypeIs (.ref it) "tuple_iterator" := ⟨_, g, rfl⟩
  have hfp := ItX.inv_fp I2 e2 (Nat.le_trans I1.sz hn)
  have I3 := ItX.inv_drop I2 e2
  rw [ItX.dropH_upd h0] at I3 hfp
  unfold PySem.W.OwitIt
  refine wpAny_specialOf (name := Str.ofString "__next__") hT PySem.F.slot_tuple_iterator_next.lookup ?_
  refine ⟨it, [it], _, _, H1, rfl, I3, turn_tuple t it, ⟨_, g, rfl, rfl⟩, fun b hb => ?_, q⟩
  rw [List.mem_singleton.mp hb]
  exact hfp
end
/-! C.m(e, .., k = v, ..), m a classmethod; cls(e, .., k = v, ..), cls a local name that holds the class -/
def tCMethK (C : Addr) (n m : Nat) (sp : Sp) (gV : List V → List V → List V) (E : XK) (ta : TE) (t tk : TA) : TE := fun σ H Q => ta σ H fun x H1 => x = .ref C ∧ t σ H1 fun vs H2 => tk σ H2 fun zs H3 => (.ref C :: vs).length = n ∧ zs.length = m ∧ sp (gV (.ref C :: vs) zs) H3 Q E
def tMakeLK (i : Nat) (C : Addr) (n m : Nat) (sp : Sp) (gV : List V → List V → List V) (E : XK) (t tk : TA) : TE := fun σ H Q => σ[i]? = some (some (.ref C)) ∧ tMakeK C n m sp gV E t tk σ H Q
section
variable {X : Cx} {CX : CXT} {k n i : Nat} {C p g f : Addr} {mc : Value} {sp : Sp} {E : XK} {o e : Expr} {es : List Expr} {kws : List Keyword} {m x : Str} {pos apos xpos : Pos} {ta : TE} {t tk : TA} {pl : Sem Bool} {fd : FuncData} {ps ks : List Str}
  {gv : List Value → List Value → List Value} {gV : List V → List V → List V}
theorem pe_cmethK (he : PE X o ta) (r : ClX.CRead X.K C mc) (c : ClX.CMet X.K C mc m p g) (F : FnOk X.prog X.w X.K X.mg X.base CX k g fd ps sp) (hr : Room k X.A) (hb : KBn X.K fd ps n ks gv gV) (hx : Passes CX X E) (ha : PA X (e :: es) t) (hkw : PK X kws tk)
    (hall : (backToKw pos (keywordEach kws X.env)).all (·.1.isSome) = true := by rfl) (hks : (backToKw pos (keywordEach kws X.env)).filterMap (·.1) = ks := by rfl)
    (hst : starEach (e :: es) X.env = (false, eval e X.env) :: starEach es X.env := by rfl) (hpl : ((backTo pos (starEach (e :: es) X.env)).any (·.1) || (backToKw pos (keywordEach kws X.env)).any (·.1.isNone)) = false := by rfl)
    (ht : eval (.Call (.Attribute o m apos) (e :: es) kws pos) X.env = (do
      let ov ← eval o X.env
      standAt apos.atName
      let (f, first) ← holding [ov] (getMethod ov m pl)
      callWith pos f first (backTo pos (starEach (e :: es) X.env)) (backToKw pos (keywordEach kws X.env))) := by rfl) :
    PE X (.Call (.Attribute o m apos) (e :: es) kws pos) (tCMethK C n ks.length sp gV E ta t tk) := by
  refine ⟨fun pins s σ H Q I h => ?_⟩
  refine PySem.W.methodCall_KW (pl := pl) (thn (he.run pins s σ H _ I h) fun u s1 ⟨x, H1, I1, rx, ex, q⟩ => ?_) ht
  subst ex
  obtain rfl : u = Value.ref C := rx
  refine ClX.getmethcm_ok I1 r c fun s2 I2 => ?_
  refine PySem.W.callWith_of (P := PySem.W.MethP X.K s1.heap.objs.size g (.ref C)) hpl (PySem.W.keeps_M c.fi) (evalArgs_kw2 hall (thn (ha.run pos _ s2 σ H1 _ I2 q) fun us s3 ⟨vs, H2, I3, rv, q2⟩ => ?_) hst)
  refine thn (hkw.run pos _ s3 σ H2 _ I3 q2) fun ws s4 ⟨zs, H3, I4, rz, l1, l2, q3⟩ => ⟨⟨ClX.pin_at I4, I4.kIn⟩, ?_⟩
  rw [hks]
  have r2 : Vals (V.ref C :: vs) (Value.ref C :: us) := .cons (relR C) rv
  have n1 : (Value.ref C :: us).length = n := r2.length.symm.trans l1
  have I5 := ClX.unpin I4
  refine wpAny_call (PySem.W.method_call (ClX.pin_at I4) (codeAny_mono (F.run X.A X.stack s4 H3 ⟨Value.ref C :: us, ks.zip ws⟩ _ _ Q E hr I5.env0 (hb.to _ (Value.ref C :: us) ws I5.kIn n1 (rz.length.symm.trans l2)) (hb.rel r2 rz) q3) fun z s' hq => ?_))
  match z, hq with
  | .error e, hq => exact hx pins σ H3 s4 e s' I5 hq
  | .ok (.ret u), hq => exact I5.after hq
  | .ok .next, hq => exact False.elim hq
  | .ok .brk, hq => exact False.elim hq
  | .ok .cont, hq => exact False.elim hq
theorem pe_makeLK (M : Mk X.K C f) (F : FnOk X.prog X.w X.K X.mg X.base CX k f fd ps sp) (hr : Room (k + 1) X.A) (hb : KBn X.K fd ps (n + 1) ks gv gV) (hx : Passes CX X E) (ha : PA X (e :: es) t) (hkw : PK X kws tk)
    (hN : X.N[i]? = some x) (hv : Vis X.env.scope x) (hd : (x == ("__debug__" : Str)) = false := by decide) (hcd : (x == ("__classdict__" : Str)) = false := by decide)
    (hall : (backToKw pos (keywordEach kws X.env)).all (·.1.isSome) = true := by rfl) (hks : (backToKw pos (keywordEach kws X.env)).filterMap (·.1) = ks := by rfl)
    (hst : starEach (e :: es) X.env = (false, eval e X.env) :: starEach es X.env := by rfl) (hpl : ((backTo pos (starEach (e :: es) X.env)).any (·.1) || (backToKw pos (keywordEach kws X.env)).any (·.1.isNone)) = false := by rfl) :
    PE X (.Call (.Name x xpos) (e :: es) kws pos) (tMakeLK i C n ks.length sp gV E t tk) := by
  refine ⟨fun pins s σ H Q I ⟨h0, h⟩ => ?_⟩
  refine wpAny_Call_Name_kw (thn ((pe_var (pos := xpos) (i := i) hN hv hd hcd).run pins s σ H (fun v H1 => v = .ref C ∧ H1 = H) I ⟨.ref C, h0, rfl, rfl⟩) fun u s1 ⟨v, H1, I1, r1, ev, eH⟩ => ?_)
  subst ev
  rw [eH] at I1
  obtain rfl : u = Value.ref C := r1
  refine PySem.W.callWith_KW (h₀ := X.base) I1.ok.mod.kin M.kp hall (thn (ha.run pos pins s1 σ H _ I1 h) fun us s2 ⟨vs, H2, I2, r, q⟩ => ?_) hpl hst
  refine thn (hkw.run pos pins s2 σ H2 _ I2 q) fun ws s3 ⟨zs, H3, I3, rz, l1, l2, q2⟩ => ⟨I3.kIn, ?_⟩
  rw [hks]
  exact run_makeK M F hr hb hx I3 r rz l1 l2 q2
end

/-! heaps that only grow -/
theorem Same.up {H : Hp} {p : Addr} {o : HO} (h : H p = Option.none) : Same H (upd H p o) := fun b u e => by
  rw [upd_ne (ne_of_none e h)]
  exact e
/-- a list under way at D, which was not there in H1 -/
structure Acc (H1 : Hp) (D : Addr) (acc : List V) (H : Hp) : Prop where
  s : Same H1 H
  n : H1 D = Option.none
  a : H D = some (.lst acc)
theorem Acc.start {H1 : Hp} {D : Addr} (n : H1 D = Option.none) : Acc H1 D [] (upd H1 D (.lst [])) := ⟨Same.up n, n, upd_same⟩
theorem Acc.same {H1 H H' : Hp} {D : Addr} {acc : List V} (h : Acc H1 D acc H) (s : Same H H') : Acc H1 D acc H' := ⟨h.s.trans s, h.n, s _ _ h.a⟩
theorem Acc.push {H1 H : Hp} {D : Addr} {acc zs : List V} (h : Acc H1 D acc H) : Acc H1 D zs (upd H D (.lst zs)) :=
  ⟨fun b o e => by rw [upd_ne (ne_of_none e h.n)]; exact h.s b o e, h.n, upd_same⟩
theorem Same.none' {H H' : Hp} (s : Same H H') {p : Addr} (h : H' p = Option.none) : H p = Option.none := s.free h
theorem Same.of_upd {H H' : Hp} {p : Addr} {o : HO} (h : H p = Option.none) (s : Same (upd H p o) H') : Same H H' := (Same.up h).trans s
/-- a list of ints as values -/
theorem ints_at {ns : List Int} {i : Nat} {x : V} (h : (ns.map V.int)[i]? = some x) : ∃ (hi : i < ns.length), x = .int ns[i] := by
  rw [List.getElem?_map] at h
  cases e : ns[i]? with
  | none => rw [e] at h; cases h
  | some u =>
    rw [e] at h
    obtain ⟨hi, rfl⟩ := List.getElem?_eq_some_iff.mp e
    exact ⟨hi, (Option.some.inj h).symm⟩

/-! comprehensions that pick -/
section
variable {α : Type} {H1 H : Hp} {D : Addr} {ks : List α} {f : α → Option V} {i : Nat} {c : α → V}
def PickI (H1 : Hp) (D : Addr) (ks : List α) (f : α → Option V) : Nat → Hp → Prop := fun i H => Acc H1 D ((ks.take i).filterMap f) H
theorem pick_start (n : H1 D = Option.none) : PickI H1 D ks f 0 (upd H1 D (.lst [])) := Acc.start n
theorem take_fm (hi : i < ks.length) : (ks.take (i + 1)).filterMap f = (ks.take i).filterMap f ++ (f ks[i]).toList := by
  rw [List.take_succ_eq_append_getElem hi, List.filterMap_append]
  cases h : f ks[i] <;> simp [h]
theorem pick_yes {H' : Hp} {y : V} (hi : i < ks.length) (hl : ks.length ≤ 1000) (e : f ks[i] = some y) (s : Same H H') (h : PickI H1 D ks f i H) :
    ∃ acc, H' D = some (.lst acc) ∧ acc.length < sizeLine ∧ PickI H1 D ks f (i + 1) (upd H' D (.lst (acc ++ [y]))) := by
  have h2 := Acc.same h s
  refine ⟨_, h2.a, small1000 ?_, ?_⟩
  · exact Nat.le_trans (Nat.le_trans (List.length_filterMap_le _ _) (List.length_take_le _ _)) (by omega)
  · unfold PickI
    rw [take_fm hi, e]
    exact h2.push
theorem pick_no {H' : Hp} (hi : i < ks.length) (e : f ks[i] = none) (s : Same H H') (h : PickI H1 D ks f i H) : PickI H1 D ks f (i + 1) H' := by
  unfold PickI
  rw [take_fm hi, e, Option.toList_none, List.append_nil]
  exact Acc.same h s
theorem pick_end {m : Nat} (hm : m = ks.length) (h : PickI H1 D ks f m H) : Acc H1 D (ks.filterMap f) H := by
  subst hm
  unfold PickI at h
  rw [List.take_length] at h
  exact h
theorem map_at {x : V} (h : (ks.map c)[i]? = some x) : ∃ hi : i < ks.length, x = c ks[i] := by
  rw [List.getElem?_map] at h
  cases e : ks[i]? with
  | none => rw [e] at h; cases h
  | some u =>
    rw [e] at h
    obtain ⟨hi, rfl⟩ := List.getElem?_eq_some_iff.mp e
    exact ⟨hi, (Option.some.inj h).symm⟩
end
end Tw

set_option Elab.async false
set_option linter.all false
set_option maxRecDepth 100000
set_option maxHeartbeats 2000000
namespace Tw
open PySem PySem.Spec PyProof.Rows L2
open PySem.W (InstAt looks_findIn looks_subIn ifBound_K cmp_K)
/-- a class with an own __eq__ and the usual != -/
structure EqC (K : PySem.W.Frag) (C f : Addr) : Prop where
  eq : PySem.W.findIn K (.ref C) "__eq__" = some (some (.ref f))
  fn : PySem.W.isFn K (.ref f) = true
  ne : PySem.W.findIn K (.ref C) "__ne__" = some (some (.builtin "object.__ne__"))
  ob : PySem.W.subIn K (.ref C) (.type "object") = some true
  ni : PySem.W.subIn K (.type "int") (.ref C) = some false
  nt : PySem.W.subIn K (.type "tuple") (.ref C) = some false

section
variable {prog : Program} {w : World} {A : Around} {E : Value → Shared → Prop} {s : Shared} {K : PySem.W.Frag} {x C L f : Addr} {h₀ : Heap} {m : Str → Option Value} {ox : Obj} {od : Option Obj} {b tb : Value}
theorem ne_entry {Q : PySem.Fin → Shared → Prop} (hu : A.units < cLine) (X : K.In s.heap) (I : InstAt s.heap x ox C od) (c : EqC K C f)
    (h : wpAny (model prog w) A (call (.ref f) [.ref x, b]) (fun v s' => ∃ r, v = .bool r ∧ Q (.done (.ret (.bool (!r)))) s') E s) :
    wpAny (model prog w) A (Builtin.«object.__ne__» ⟨[.ref x, b], []⟩) Q E s := by
  unfold Builtin.«object.__ne__»
  refine wpAny_bind (wpAny_of_eq (a := (Value.ref x, [b])) (by first | rfl | kernel_rfl!) ?_)
  refine wpAny_bind (wpAny_cRoomFor hu ?_)
  refine wpAny_bind (m := callSpecialIfBound? (.ref x) (Str.ofString "__eq__") [b]) (ifBound_K X I c.eq c.fn (wpAny_mono h (fun v s' hv => ?_) fun _ _ e => e))
  obtain ⟨r, e, q⟩ := hv
  subst e
  refine wpAny_bind (m := truthy (.bool r)) (wpAny_truthy_bool ?_)
  exact wpAny_pure q
theorem ne_call {Q : Value → Shared → Prop} (hu : A.in1.units < cLine) (X : K.In s.heap) (I : InstAt s.heap x ox C od) (c : EqC K C f)
    (h : wpAny (model prog w) A.in1 (call (.ref f) [.ref x, b]) (fun v s' => ∃ r, v = .bool r ∧ Q (.bool (!r)) s') E s) :
    wpAny (model prog w) A (call (.builtin "object.__ne__") [.ref x, b]) Q E s := by
  have t2 : PySem.W.Looks (model prog w) s.heap (isInstance (.ref x) (.type "object")) true := I.type.andThen (looks_subIn X c.ob)
  refine wpAny_call (codeAny_call_builtin F.cmp_object.ne.plain F.cmpEntry_ne (PySem.W.check_slot F.cmpKind_ne F.cmpSplit_ne t2 (F.cmpArgs_ne _ _) (ne_entry hu X I c (wpAny_mono h (fun v s' hv => ?_) fun _ _ e => e))))
  obtain ⟨r, e, q⟩ := hv
  exact ⟨r, e, q⟩
theorem ne_bound {Q : Option Value → Shared → Prop} (hu : A.in1.units < cLine) (X : K.In s.heap) (I : InstAt s.heap x ox C od) (c : EqC K C f)
    (h : wpAny (model prog w) A.in1 (call (.ref f) [.ref x, b]) (fun v s' => ∃ r, v = .bool r ∧ Q (some (.bool (!r))) s') E s) :
    wpAny (model prog w) A (callSpecialIfBound? (.ref x) "__ne__" [b]) Q E s := by
  simp only [callSpecialIfBound?, bindSpecialIfBound?]
  refine wpAny_holding (wpAny_bind (wpAny_bind (wpAny_bind (I.type.here ((looks_findIn X c.ne).here ?_)))))
  refine wpAny_bind (wpAny_askSetting (wpAny_ite ?_))
  have fin : wpAny (model prog w) A (call (.builtin "object.__ne__") ([.ref x] ++ [b]) >>= fun v => pure (some v)) Q E s :=
    wpAny_bind (ne_call hu X I c (wpAny_mono h (fun v s' ⟨r, e, q⟩ => ⟨r, e, wpAny_pure q⟩) fun _ _ e => e))
  have bd := F.cmp_object.ne.bind (.ref x)
  split
  · refine wpAny_bind ?_
    rw [bd]
    exact wpAny_pure (wpAny_pure (by exact fin))
  · refine wpAny_tryCatch (wpAny_bind ?_)
    rw [bd]
    exact wpAny_pure (wpAny_pure (by exact fin))
theorem ne_K {Q : Value → Shared → Prop} (hu : A.in1.units < cLine) (hu0 : A.units < cLine) (F : Fr h₀ L s.heap m) (X₀ : K.In h₀) (I : InstAt s.heap x ox C od) (hb : PySem.W.Looks (model prog w) s.heap (typeOf b) tb) (hn : PySem.W.notFirst K C tb = true) (c : EqC K C f)
    (h : wpAny (model prog w) A.in1 (call (.ref f) [.ref x, b]) (fun v s' => ∃ r, v = .bool r ∧ Q (.bool (!r)) s') E s) : wpAny (model prog w) A (richCompare .NotEq (.ref x) b) Q E s := by
  have X := X₀.keeps F.keep
  have one : wpAny (model prog w) A (tryCompare (.ref x) (cmpInfo .NotEq).2.1 b) (fun r s' => ∃ v, r = some v ∧ Q v s') E s := by
    unfold tryCompare
    refine wpAny_bind (ne_bound hu X I c (wpAny_mono h (fun v s' ⟨r, e, q⟩ => ⟨r, e, ?_⟩) fun _ _ e => e))
    exact wpAny_pure ⟨_, rfl, q⟩
  have two : ∀ r s', (∃ v, r = some v ∧ Q v s') → ∃ v, r = some v ∧ Q v s' := fun _ _ z => z
  unfold richCompare
  simp only [oneThing_ref]
  refine wpAny_holding (wpAny_bind (wpAny_cRoomFor hu0 ?_))
  refine wpAny_bind (I.type.here (wpAny_bind (hb.here ?_)))
  split
  · rename_i q
    have e : PySem.W.subIn K tb (.ref C) = some false := by
      rcases Bool.or_eq_true_iff.mp hn with e | e
      · rw [beq_iff_eq.mp e] at q; simp at q
      · exact beq_iff_eq.mp e
    refine wpAny_bind ((looks_subIn X e).here ?_)
    simp only [Bool.false_eq_true, if_false]
    refine wpAny_bind (wpAny_mono one (fun r s' ⟨v, ev, hq⟩ => ?_) fun _ _ e => e)
    subst ev
    exact wpAny_pure hq
  · refine wpAny_bind (wpAny_pure ?_)
    simp only [Bool.false_eq_true, if_false]
    refine wpAny_bind (wpAny_mono one (fun r s' ⟨v, ev, hq⟩ => ?_) fun _ _ e => e)
    subst ev
    exact wpAny_pure hq
end
/-! as rules -/
section
variable {X : Cx} {CX : CXT} {k : Nat} {f C : Addr} {fd : FuncData} {ps : List Str} {sp : Sp} {E : XK}
/-- the other operand: an instance of the same class, an int, a tuple -/
inductive Oth (H : Hp) (C : Addr) : V → Prop where
  | ins {a dx : Addr} {fs : List (Str × V)} (h : H a = some (.ins C dx fs)) : Oth H C (.ref a)
  | int (i : Int) : Oth H C (.int i)
  | tup {a : Addr} {xs : List V} (h : H a = some (.tup xs)) : Oth H C (.ref a)
def rEqO (C : Addr) (sp : Sp) (E : XK) (neg : Bool) : R2 := fun x y H Q =>
  ∃ a dx fs, x = .ref a ∧ H a = some (.ins C dx fs) ∧ Oth H C y ∧ sp [.ref a, y] H (fun v H' => ∃ r, v = .bl r ∧ Q (.bl (if neg then !r else r)) H') E
theorem oth_type {pins : List (Addr × Obj)} {σ : L2.St} {H : Hp} {s : Shared} {y : V} {u : Value} (I : Inv X pins σ H s) (ry : RelV y u) (c : EqC X.K C f) (o : Oth H C y) :
    ∃ tb, PySem.W.Looks (model X.prog X.w) s.heap (typeOf u) tb ∧ PySem.W.notFirst X.K C tb = true := by
  cases o with
  | @ins a dx fs h =>
    obtain rfl : u = Value.ref a := ry
    obtain ⟨mA, O, rr, _, _, _⟩ := ins_get I.hok h
    obtain ⟨od, J, hl⟩ := O.look
    exact ⟨_, J.type, by unfold PySem.W.notFirst; simp⟩
  | int i =>
    obtain ⟨t, rfl⟩ := ry
    exact ⟨.type "int", .now, by unfold PySem.W.notFirst; rw [c.ni]; simp⟩
  | @tup a xs h =>
    obtain rfl : u = Value.ref a := ry
    obtain ⟨_, _, _, ob, h1, h2, _⟩ := (show ObjOk X.prog X.w H s.heap a (.tup xs) from I.hok a _ h)
    exact ⟨.type "tuple", h2 ▸ (PySem.W.Looks.ld h1).andThen .now, by unfold PySem.W.notFirst; rw [c.nt]; simp⟩
theorem op_eq_own (c : EqC X.K C f) (F : FnOk X.prog X.w X.K X.mg X.base CX k f fd ps sp) (hr : Room k X.A) (hb : Binds X.K fd ps []) (hx : Passes CX X E) : OpR X (compareOp .Eq) (rEqO C sp E false) := by
  intro pins s σ H x y v u Q I rx ry ⟨a, dx, fs, ex, ha, o, q⟩
  subst ex
  obtain rfl : v = Value.ref a := rx
  obtain ⟨mA, O, rr, _, _, _⟩ := ins_get I.hok ha
  obtain ⟨od, J, hl⟩ := O.look
  obtain ⟨m0, hF⟩ := I.fr
  obtain ⟨tb, lk, nf⟩ := oth_type I ry c o
  show wpAny _ _ (richCompare .Eq (.ref a) u) _ _ _
  refine cmp_K hr.units0 hF I.ok.mod.kin J lk nf c.eq c.fn (thn (run_sub F ⟨hr, rfl⟩ hb hx I (.cons (relR a) (.cons ry .nil)) q) fun r s' ⟨z, H', I', rz, b, ez, q'⟩ => ?_)
  subst ez
  obtain rfl : r = Value.bool b := rz
  exact ⟨_, H', I', relB b, q'⟩
theorem op_ne_own (c : EqC X.K C f) (F : FnOk X.prog X.w X.K X.mg X.base CX k f fd ps sp) (hr : Room (k + 1) X.A) (hb : Binds X.K fd ps []) (hx : Passes CX X E) : OpR X (compareOp .NotEq) (rEqO C sp E true) := by
  intro pins s σ H x y v u Q I rx ry ⟨a, dx, fs, ex, ha, o, q⟩
  subst ex
  obtain rfl : v = Value.ref a := rx
  obtain ⟨mA, O, rr, _, _, _⟩ := ins_get I.hok ha
  obtain ⟨od, J, hl⟩ := O.look
  obtain ⟨m0, hF⟩ := I.fr
  obtain ⟨tb, lk, nf⟩ := oth_type I ry c o
  show wpAny _ _ (richCompare .NotEq (.ref a) u) _ _ _
  refine ne_K (Room.units0 hr.in1) hr.units0 hF I.ok.mod.kin J lk nf c (thn (run_sub F (Sub.in1 ⟨hr, rfl⟩) hb hx I (.cons (relR a) (.cons ry .nil)) q) fun r s' ⟨z, H', I', rz, b, ez, q'⟩ => ?_)
  subst ez
  exact ⟨b, rz, _, H', I', relB (!b), q'⟩
end
end Tw

set_option Elab.async false
set_option linter.all false
set_option maxRecDepth 100000
set_option maxHeartbeats 4000000
namespace Tw
open PySem PySem.Spec PyProof.Rows L2
/-! enumerate(t), t a tuple -/
def enO (s : Shared) : Obj := { cls := .type "enumerate", data := .fields #[.none, .bool false, .ref s.heap.objs.size, rawInt 0, .none, .none] }
theorem enum_newT (t : Addr) (items : Array Value) :
    Meets (Builtin.«enumerate.__new__» ⟨[.type "enumerate", .ref t], []⟩) (fun _ R s => s.heap.IsTuple t items ∧
      R (.ok (.ret (.ref (s.heap.push (itTup t 0)).objs.size))) { s with heap := (s.heap.push (itTup t 0)).push (enO s) }) :=
  .of_wp fun prog w A R s h => by
    obtain ⟨hp, g, d, tk, os⟩ := s
    obtain ⟨h1, h⟩ := h
    have hsub := sub_enumerate
    have q1 : ∀ {A' : Around} {E : Value → Shared → Prop} {Q : Value → Shared → Prop}, Q (.ref hp.objs.size) ⟨hp.push (itTup t 0), g, d, tk, os⟩ → wpAny (model prog w) A' (pyIter (.ref t)) Q E ⟨hp, g, d, tk, os⟩ :=
      fun q => wpAny_pyIter_tuple (s := ⟨hp, g, d, tk, os⟩) h1 q
    wp_walk using q1
    refine wpAny_stack_any fun st => wpAny_pure ?_
    split
    · rename_i c _ _ _ _ _
      cases (c == Value.type "enumerate")
      · wp_walk using q1
        exact ⟨_, rfl, h⟩
      · wp_walk using q1
        exact ⟨_, rfl, h⟩
    · wp_walk using q1
      exact ⟨_, rfl, h⟩
section
variable {prog : Program} {w : World} {A : Around} {E : Value → Shared → Prop} {s : Shared}
theorem call_enumT {t : Addr} {items : Array Value} {Q : Value → Shared → Prop} (hT : s.heap.IsTuple t items)
    (h : ∀ h', IsEnum h' (s.heap.objs.size + 1) s.heap.objs.size 0 .none → h'.IsTupleIter s.heap.objs.size t 0 → h'.objs.size = s.heap.objs.size + 2 →
      (∀ b o, s.heap.get? b = some o → h'.get? b = some o) → Q (.ref (s.heap.objs.size + 1)) { s with heap := h' }) :
    wpAny (model prog w) A (call (.type "enumerate") [.ref t]) Q E s := by
  refine callType_new F.called_enumerate (by decide) (F.typeCall_enumerate_1 _) (F.newCall_enumerate_1 _) (fun obj => F.args_object_init_2 obj _) F.entry_enumerate_new (enum_newT t items) ⟨hT, ?_⟩
  have hz : (s.heap.push (itTup t 0)).objs.size = s.heap.objs.size + 1 := Heap.size_push ..
  show _ ∧ _
  rw [hz]
  have he : IsEnum ((s.heap.push (itTup t 0)).push (enO s)) (s.heap.objs.size + 1) s.heap.objs.size 0 .none := by
    have q := Heap.get?_push_size (s.heap.push (itTup t 0)) (o := enO s) rfl
    rw [hz] at q
    exact q
  have hi : ((s.heap.push (itTup t 0)).push (enO s)).IsTupleIter s.heap.objs.size t 0 := ⟨_, Heap.get?_push_of_some _ (Heap.get?_push_size _ rfl), rfl, rfl⟩
  exact ⟨⟨_, he, rfl⟩, h _ he hi (by rw [Heap.size_push, hz]) fun b o x => Heap.get?_push_of_some _ (Heap.get?_push_of_some _ x)⟩
end
def IteT (K : PySem.W.Frag) (a : Addr) : It :=
  ⟨fun i H => ∃ (xs : List V) (x : V), SqT K H a xs ∧ xs[i]? = some x, fun i H v H' => ∃ T x, v = .ref T ∧ H T = Option.none ∧ H' = upd H T (.tup [.int (i : Nat), x]) ∧ ∀ xs, SqT K H a xs → xs[i]? = some x, fun i H => ∃ xs : List V, SqT K H a xs ∧ xs.length = i⟩
theorem turn_enumT {P : Program} {w : World} {K : PySem.W.Frag} {elts : List Expr} {kk : Nat} {tpos : Pos} (a e it : Addr) :
    Turn P w K (.Tuple elts kk tpos) (IteT K a) [e, it] e (fun i h => (∃ old, IsEnum h e it ((i : Nat) : Int) old) ∧ h.IsTupleIter it a i ∧ e ≠ it) where
  mem := by simp
  obj := fun i h st b hb => by
    obtain ⟨⟨old, he⟩, ⟨o, ho, hc, hd⟩, _⟩ := st
    rcases (show b = e ∨ b = it by simpa using hb) with rfl | rfl
    · exact ⟨_, he, fun v q => nomatch q⟩
    · exact ⟨o, ho, fun v q => by rw [hd] at q; cases q⟩
  keep := fun i h h' st k => let ⟨⟨old, he⟩, hi, hne⟩ := st; ⟨⟨old, k e (by simp) _ he⟩, hi.at fun o q => k it (by simp) o q, hne⟩
  item := by
    intro X hP hw hK hc i pins s σ H E I hf st hg
    subst hP hw hK
    obtain ⟨⟨old, he⟩, hit, hne⟩ := st
    obtain ⟨xs, x, hq, hx⟩ := hg
    obtain ⟨its, rv, p, hz⟩ := I.tuple hq
    have hil : i < xs.length := (List.getElem?_eq_some_iff.mp hx).1
    have hlen := rv.length
    have hel : e < s.heap.objs.size := Heap.lt_size he
    have hitl : it < s.heap.objs.size := by obtain ⟨_, q, _⟩ := hit; exact Heap.lt_size q
    have hae : e ≠ a := fun z => by
      obtain ⟨oo, h1, h2, _⟩ := p
      rw [← z, he] at h1
      cases h1
      injection h2 with q
      exact absurd q (by decide)
    have hia : it ≠ a := fun z => by
      obtain ⟨oo, h1, h2, _⟩ := p
      obtain ⟨o2, h3, h4, _⟩ := hit
      rw [← z, h3] at h1
      cases h1
      rw [h4] at h2
      injection h2 with q
      exact absurd q (by decide)
    have D := Draws.tuple (prog := X.prog) (w := X.w) (A := X.A.in1) (I.ok.hd hc) it a hia.symm its.toArray
    refine wpAny_pyNext_enum_itemD D he ⟨hit, p⟩ (by rw [List.size_toArray]; omega) hne (by simp [hne, hae]) fun u h' tk hu ho hst hT hsz hk => ?_
    obtain ⟨u2, hu2, ru⟩ := rv.get hx
    obtain rfl : u = u2 := by
      rw [List.getElem?_toArray] at hu
      exact Option.some.inj (hu.symm.trans hu2)
    refine ⟨_, rfl, wpAny_letOwnedTupleGo_enum (s := { s with heap := h', toks := tk + 1 }) ho fun h'' he' sb => ?_⟩
    have hT2 : h''.get? s.heap.objs.size = some { cls := .type "tuple", data := .seq #[.int i tk, u] } := (sb.2 _ (Nat.ne_of_gt hel)).trans hT
    have new : ObjOk X.prog X.w (upd H s.heap.objs.size (.tup [.int (i : Nat), x])) h'' s.heap.objs.size (.tup [.int (i : Nat), x]) :=
      ⟨by show 2 ≤ sizeLine; decide, [.int i tk, u], .cons ⟨_, rfl⟩ (.cons ru .nil), ⟨_, hT2, rfl, _, rfl⟩⟩
    have I1 : Inv X pins σ (upd H s.heap.objs.size (.tup [.int (i : Nat), x])) { s with heap := h'', toks := tk + 1 } :=
      I.turnedNew (ch := [e, it]) (fun b ob hb q => (sb.2 b (fun z => hb (by simp [z]))).trans (hk b ob (fun z => hb (by simp [z])) (fun z => hb (by simp [z])) q)) hf (Nat.le_refl _) new
    refine ⟨.ref s.heap.objs.size, _, I1, rfl, ⟨_, x, rfl, I.hok.fresh (Nat.le_refl _), rfl, fun ys hy => by rw [I.tuple_inj hy hq]; exact hx⟩, ⟨⟨u, ?_⟩, hst.1.at fun o q => (sb.2 it (Ne.symm hne)).trans q, hne⟩, fun b hb => ?_⟩
    · rw [show ((i + 1 : Nat) : Int) = (i : Int) + 1 by omega]
      exact he'
    · have hb' : b < s.heap.objs.size := by
        rcases (show b = e ∨ b = it by simpa using hb) with rfl | rfl
        · exact hel
        · exact hitl
      rw [upd_ne (Nat.ne_of_lt hb')]
      exact (hf b hb).1
  done := by
    intro X hP hw hK hc i pins s σ H E I hf st hg
    subst hP hw hK
    obtain ⟨⟨old, he⟩, hit, hne⟩ := st
    obtain ⟨xs, hq, hx⟩ := hg
    obtain ⟨its, rv, p, hz⟩ := I.tuple hq
    obtain ⟨f0, f1, f2, f3, f4, f5⟩ := hf it (by simp)
    have hlen := rv.length
    have hae : e ≠ a := fun z => by
      obtain ⟨oo, h1, h2, _⟩ := p
      rw [← z, he] at h1
      cases h1
      injection h2 with q
      exact absurd q (by decide)
    have hia : it ≠ a := fun z => by
      obtain ⟨oo, h1, h2, _⟩ := p
      obtain ⟨o2, h3, h4, _⟩ := hit
      rw [← z, h3] at h1
      cases h1
      rw [h4] at h2
      injection h2 with q
      exact absurd q (by decide)
    have D := Draws.tuple (prog := X.prog) (w := X.w) (A := X.A.in1) (I.ok.hd hc) it a hia.symm its.toArray
    have en : its.toArray.size = i := by rw [List.size_toArray]; omega
    refine wpAny_pyNext_enum_endD D he (by rw [en]; exact ⟨hit, p⟩) fun h' eb => ⟨rfl, I.turned (t' := s.toks) (fun b o hb q => eb b o hb q) f0 f1 f3 f4 f5⟩
  self := fun A i s Q E st h => let ⟨⟨_, he⟩, _⟩ := st; wpAny_pyIter_enum he h
theorem walk_enumT {K : PySem.W.Frag} {a : Addr} {xs : List V} : Walk (IteT K a) xs.length (fun H => SqT K H a xs) (YPair (fun i => some (.int (i : Nat))) (fun i => xs[i]?)) := by
  refine ⟨fun i _ hi q => ⟨xs, xs[i], q, by simp [hi]⟩, fun _ q => ⟨xs, q, rfl⟩, fun i H v H' _ q y => ?_⟩
  obtain ⟨T, x, h1, h2, h3, h4⟩ := y
  exact ⟨T, .int (i : Nat), x, h1, h2, h3, rfl, h4 xs q⟩
/-- enumerate of a list or of a tuple -/
def iEnS (K : PySem.W.Frag) (ta : TA) : TI := fun σ H R => ta σ H fun vs H1 => ∃ a xs, vs = [.ref a] ∧ ((SqL K H1 a xs ∧ R (Ite K a) H1) ∨ (SqT K H1 a xs ∧ R (IteT K a) H1))
theorem pi_enS {X : Cx} {e : Expr} {ta : TA} {p pos tpos : Pos} {elts : List Expr} {kk : Nat} (hg : Gl X "enumerate") (hm : X.mg "enumerate" = Option.none) (ha : PA X [e] ta) (hs : starEach [e] X.env = [(false, eval e X.env)] := by rfl) :
    PI X (.Tuple elts kk tpos) (.Call (.Name "enumerate" p) [e] [] pos) (iEnS X.K ta) := by
  refine ⟨fun pins s σ H R I h => ?_⟩
  refine Call_ (ld_blt I hg hm boot_enumerate (PyProof.Rows.callWith_type1 (thn (ha.run pos pins s σ H _ I h) fun us s1 ⟨vs, H1, I1, r1, a, xs, ex, q1⟩ => ?_) hs rfl))
  subst ex
  obtain ⟨u, rfl, ru⟩ := r1.one
  obtain rfl : u = Value.ref a := ru
  have fr : ∀ b ∈ [s1.heap.objs.size + 1, s1.heap.objs.size], FpOk X pins H1 b := fun b hb => by
    have hle : s1.heap.objs.size ≤ b := by
      rcases (show b = s1.heap.objs.size + 1 ∨ b = s1.heap.objs.size by simpa using hb) with z | z <;> omega
    exact I1.fpOk hle (I1.hok.fresh hle)
  rcases q1 with ⟨hq, q⟩ | ⟨hq, q⟩
  · obtain ⟨its, rv, p', hz⟩ := I1.list hq
    exact call_enumerate_list p'.isList fun h' he hit hsz hk => wpAny_pyIter_enum he ⟨_, _, _, _, H1, rfl, I1.kept (t' := s1.toks) hk, turn_enum a (s1.heap.objs.size + 1) s1.heap.objs.size, ⟨⟨.none, he⟩, hit, Nat.succ_ne_self _⟩, fr, q⟩
  · obtain ⟨its, rv, p', hz⟩ := I1.tuple hq
    exact call_enumT p' fun h' he hit hsz hk => wpAny_pyIter_enum he ⟨_, _, _, _, H1, rfl, I1.kept (t' := s1.toks) hk, turn_enumT a (s1.heap.objs.size + 1) s1.heap.objs.size, ⟨⟨.none, he⟩, hit, Nat.succ_ne_self _⟩, fr, q⟩
end Tw

set_option Elab.async false
set_option linter.all false
set_option maxRecDepth 100000
set_option maxHeartbeats 2000000
/-! own rules: min(xs, key=lambda x: ys[x]), ys a name of the def -/
namespace Cl
open PySem PySem.Spec PyProof.Rows L2 LamX
section
variable {prog : Program} {w : World} {A : Around} {E : Value → Shared → Prop} {s : Shared}
/-- what the lambda's scope must say -/
structure LSc (scope : Scope) (x y : Str) : Prop where
  kind : scope.kind = .function
  co : scope.isCoroutine = false
  gen : scope.isGenerator = false
  nocell : ∀ z ∈ scope.names, z.2 ≠ .cell
  px : scope.names.lookup x = some .local
  fy : scope.names.lookup y = some .free
/-- lambda x: y[x], called with an int -/
theorem lam_ix {f l c' ck : Addr} {q x y : Str} {params : Arguments} {p1 p2 p3 : Pos} {scope : Scope} {cl : List (Str × Addr)} {pm ctv u : Value} {vs : List Value} {i : Int} {t : Tok} {Q : Value → Shared → Prop}
    (S : LSc scope x y) (hd : A.depth < recursionLimit) (hf : s.heap.get? f = some (PySem.W.kla_obj "<lambda>" q params (.Subscript (.Name y p1) (.Name x p2) p3) scope cl pm c' ctv))
    (hbind : ∀ v : Value, bindArgs (PySem.W.kla_fn "<lambda>" q params (.Subscript (.Name y p1) (.Name x p2) p3) scope cl pm (.ref c') ctv) ⟨[v], []⟩ = pure [(x, v)])
    (hcode : ∃ (oc : Obj) (us : Array Value) (tk : Tok), s.heap.get? c' = some oc ∧ oc.data = .fields us ∧ us[1]? = some (.str q tk)) (hlim : s.heap.NoLimit)
    (hck : cl.lookup y = some ck) (hcell : s.heap.IsCell ck (some (.ref l))) (hl : s.heap.IsList l vs.toArray) (h0 : 0 ≤ i) (h1 : i < 2 ^ 63) (hi : vs[i.toNat]? = some u)
    (hdx : (x == ("__debug__" : Str)) = false) (hdy : (y == ("__debug__" : Str)) = false) (hcy : (y == ("__classdict__" : Str)) = false)
    (h : ∀ h' tk, s.toks ≤ tk → (∀ b o, s.heap.get? b = some o → h'.get? b = some o) → Q u { s with heap := h', toks := tk }) : wpAny (model prog w) A (call (.ref f) [.int i t]) Q E s := by
  obtain ⟨oc, us, tq, hoc, hdc, hvc⟩ := hcode
  refine wpAny_call (PySem.W.kla_callFunE hd hf rfl S.co S.gen rfl ⟨c', oc, us, tq, rfl, hoc, hdc, hvc⟩ ?_)
  rw [hbind]
  refine wpAny_pure (wpAny_newFunctionEnv S.nocell (fun z hz => by rw [List.mem_singleton.mp hz]; exact S.px) (fun h₁ hns hsb => ⟨hlim.fresh _ hsb, ?_⟩) S.kind)
  have kp : ∀ b o, s.heap.get? b = some o → h₁.get? b = some o := fun b o e => hsb.extBut b o (Nat.ne_of_lt (Heap.lt_size e)) (Heap.get?_push_of_some _ e)
  refine PySem.W.kla_codeExpr ?_
  refine wpAny_Subscript_Name list_getitem_lookup ?_
  refine wpAny_Name (wpAny_loadName_free S.kind S.fy hck (hcell.keeps kp) ?_ hcy) hdy
  refine wpAny_Name (wpAny_loadName_local S.kind S.px hns (v := .int i t) ?_ ?_) hdx
  · simp [List.lookup]
  · have hl' : h₁.IsList l vs.toArray := hl.at fun o e => kp _ _ e
    refine ⟨hl'.typeIs, wpAny_getItem_list hl' h0 h1 (by simpa using hi) ?_⟩
    exact h h₁ _ (by show s.toks ≤ s.toks + _; omega) kp
/-- what a lambda x: y[x] is, and what it reads -/
structure LamAt (h : Heap) (f : Addr) (x y : Str) (q : Str) (params : Arguments) (p1 p2 p3 : Pos) (scope : Scope) (cl : List (Str × Addr)) (pm ctv : Value) (c' ck l : Addr) (us : List Value) : Prop where
  fn : h.get? f = some (PySem.W.kla_obj "<lambda>" q params (.Subscript (.Name y p1) (.Name x p2) p3) scope cl pm c' ctv)
  code : ∃ (oc : Obj) (us : Array Value) (tk : Tok), h.get? c' = some oc ∧ oc.data = .fields us ∧ us[1]? = some (.str q tk)
  lim : h.NoLimit
  hck : cl.lookup y = some ck
  cell : h.IsCell ck (some (.ref l))
  lst : h.IsList l us.toArray
theorem LamAt.keeps {h h' : Heap} {f : Addr} {x y : Str} {q : Str} {params : Arguments} {p1 p2 p3 : Pos} {scope : Scope} {cl : List (Str × Addr)} {pm ctv : Value} {c' ck l : Addr} {us : List Value}
    (L : LamAt h f x y q params p1 p2 p3 scope cl pm ctv c' ck l us) (k : ∀ b o, h.get? b = some o → h'.get? b = some o) : LamAt h' f x y q params p1 p2 p3 scope cl pm ctv c' ck l us :=
  ⟨k _ _ L.fn, let ⟨oc, us, tk, a, b, c⟩ := L.code; ⟨oc, us, tk, k _ _ a, b, c⟩, L.lim.keeps k, L.hck, L.cell.keeps k, L.lst.at fun o e => k _ _ e⟩
theorem min_lam {f a l c' ck : Addr} {q x y : Str} {params : Arguments} {p1 p2 p3 : Pos} {scope : Scope} {cl : List (Str × Addr)} {pm ctv : Value} {cs us : List Value} {ns : Nat → Int} {kf : Nat → Int} {Q : Value → Shared → Prop}
    (hh : A.handled = none) (S : LSc scope x y) (hd : A.depth < recursionLimit) (L : LamAt s.heap f x y q params p1 p2 p3 scope cl pm ctv c' ck l us)
    (hbind : ∀ v : Value, bindArgs (PySem.W.kla_fn "<lambda>" q params (.Subscript (.Name y p1) (.Name x p2) p3) scope cl pm (.ref c') ctv) ⟨[v], []⟩ = pure [(x, v)])
    (hdx : (x == ("__debug__" : Str)) = false) (hdy : (y == ("__debug__" : Str)) = false) (hcy : (y == ("__classdict__" : Str)) = false)
    (ht : s.heap.IsTuple a cs.toArray) (hc : ∀ i, i < cs.length → ∃ t, cs[i]? = some (.int (ns i) t)) (hne : 0 < cs.length)
    (hk : ∀ i, i < cs.length → 0 ≤ ns i ∧ ns i < 2 ^ 63 ∧ ∃ t, us[(ns i).toNat]? = some (.int (kf i) t))
    (h : ∀ v h' tk, cs[argBest (fun i j => decide (kf i < kf j)) (cs.length - 1)]? = some v → (∀ b o, s.heap.get? b = some o → h'.get? b = some o) → Q v { s with heap := h', toks := tk }) :
    wpAny (model prog w) A (call (.builtin "min") [.ref a] [(Str.ofString "key", .ref f)]) Q E s := by
  have hd1 : A.in1.depth < recursionLimit := hd
  refine call_min_walkK (PySem.W.iter_tupleW (A := A.in1) hh ht fun s₂ e2 W st hfp hfr kp2 => ?_)
  have sz2 : s.heap.objs.size < s₂.heap.objs.size := hfp _ List.mem_cons_self
  have old : ∀ {s' : Shared}, Moved [s₂.heap.objs.size, s.heap.objs.size] (fun a b => b = a) s₂ s' → ∀ b o, s.heap.get? b = some o → s'.heap.get? b = some o := fun {s'} m b o e => by
    have lt := Heap.lt_size e
    refine m.heap b o (fun hm => ?_) (kp2 b o e)
    rcases List.mem_cons.mp hm with z | hm
    · rw [z] at lt
      exact Nat.lt_irrefl _ (Nat.lt_trans lt sz2)
    · rw [List.mem_singleton.mp hm] at lt
      exact Nat.lt_irrefl _ lt
  have szc : cs.toArray.size = cs.length := by simp
  refine ⟨s.heap.objs.size, [s.heap.objs.size, a], [s.heap.objs.size], (fun a b => b = a), cs.toArray.size, _, _, fun s' => Moved [s₂.heap.objs.size, s.heap.objs.size] (fun a b => b = a) s₂ s', fun i k _ => ∃ t, k = .int (kf i) t, fun i j => decide (kf i < kf j), rfl, W, st, hfp, by rw [szc]; exact hne, ⟨?_, ?_, ?_, ?_⟩, Moved.refl fun _ => rfl, ?_⟩
  · exact fun s1 s' J m => J.trans (fun _ _ _ h1 h2 => h2.trans h1) m
  · exact fun i k s1 s' v _ => v
  · intro i v s1 o Q' E' hi hP J stI hS cont
    rw [szc] at hi
    obtain ⟨t, ec⟩ := hc i hi
    have ev : v = .int (ns i) t := by
      have hP' : cs[i]? = some v := by simpa using hP
      rw [ec] at hP'
      exact (Option.some.inj hP').symm
    subst ev
    obtain ⟨h0, h1, tk, eu⟩ := hk i hi
    have L1 := L.keeps (old J)
    refine lam_ix S hd1 L1.fn hbind L1.code L1.lim L1.hck L1.cell L1.lst h0 h1 eu hdx hdy hcy fun h' tk' hle kp => ?_
    exact cont _ _ (J.then_heap hle fun b o _ e => kp b o e) (W.frame _ s1 h' tk' stI hle fun b _ o e => kp b o e) (kp _ _ hS) ⟨_, rfl⟩ fun j k' z => z
  · intro i j ki kj s1 Q' E' J vi vj q
    exact CmpOf.ints_lt (prog := prog) (w := w) (A := A.in1) (P := fun i v => ∃ t, v = .int (kf i) t) kf (fun i v h => h) i j ki kj s1 Q' E' vi vj q
  · intro v s' hP J
    rw [szc] at hP
    have hP' : cs[argBest (fun i j => decide (kf i < kf j)) (cs.length - 1)]? = some v := by simpa using hP
    have e : s' = { s with heap := s'.heap, toks := s'.toks } := by
      obtain ⟨hp, g, d, tk, os⟩ := s'
      subst e2
      have h1 : g = s.gens := J.gens
      have h2 : d = s.drawn := J.drawn
      have h3 : os = s.os := J.os
      subst h1 h2 h3
      rfl
    rw [e]
    exact h v s'.heap s'.toks hP' (old J)
end
/-- the first of the least -/
def FirstLeast (kf : Nat → Int) (n j : Nat) : Prop := j < n ∧ (∀ i, i < n → kf j ≤ kf i) ∧ ∀ i, i < j → kf j < kf i
theorem best_is (kf : Nat → Int) : ∀ n, FirstLeast kf (n + 1) (argBest (fun i j => decide (kf i < kf j)) n)
  | 0 => ⟨Nat.zero_lt_one, fun i h => by rw [Nat.lt_one_iff.mp h]; exact Int.le_refl _, fun i h => nomatch h⟩
  | n + 1 => by
    obtain ⟨a, b, c⟩ := best_is kf n
    show FirstLeast kf (n + 2) (if decide (kf (n + 1) < kf (argBest (fun i j => decide (kf i < kf j)) n)) = true then n + 1 else argBest (fun i j => decide (kf i < kf j)) n)
    by_cases h : kf (n + 1) < kf (argBest (fun i j => decide (kf i < kf j)) n)
    · rw [if_pos (decide_eq_true h)]
      refine ⟨by omega, fun i hi => ?_, fun i hi => ?_⟩
      · by_cases e : i = n + 1
        · rw [e]
          exact Int.le_refl _
        · have := b i (by omega)
          omega
      · have := b i (by omega)
        omega
    · rw [if_neg (fun z => h (of_decide_eq_true z))]
      refine ⟨by omega, fun i hi => ?_, c⟩
      by_cases e : i = n + 1
      · rw [e]
        omega
      · exact b i (by omega)
theorem first_one {kf : Nat → Int} {n i j : Nat} (a : FirstLeast kf n i) (b : FirstLeast kf n j) : i = j := by
  rcases Nat.lt_trichotomy i j with h | h | h
  · have h1 := b.2.2 i h
    have h2 := a.2.1 j b.1
    omega
  · exact h
  · have h1 := a.2.2 j h
    have h2 := b.2.1 i a.1
    omega
/-- the item of ns whose key in ks is the least, the first such one -/
def LeastAt (ks ns : List Int) (m : Int) : Prop := ∃ j, FirstLeast (fun i => ks.getD (ns.getD i 0).toNat 0) ns.length j ∧ m = ns.getD j 0
theorem _root_.LamX.ExtN.rd {H H' : Hp} (e : ExtN H H') {a : Addr} {u : HO} (n : ∀ ps, u ≠ .tbl ps) (h : Rd H a u) : Rd H' a u := by
  rcases h with h | ⟨o, h⟩
  · exact .inl (e _ _ h n)
  · exact .inr ⟨o, e _ _ h fun ps z => nomatch z⟩
theorem _root_.LamX.ExtN.sqL {K : PySem.W.Frag} {H H' : Hp} (e : ExtN H H') {a : Addr} {xs : List V} (h : SqL K H a xs) : SqL K H' a xs := h.elim (fun h => .inl (e.rd (fun ps z => nomatch z) h)) .inr
theorem _root_.LamX.ExtN.sqT {K : PySem.W.Frag} {H H' : Hp} (e : ExtN H H') {a : Addr} {xs : List V} (h : SqT K H a xs) : SqT K H' a xs := h.elim (fun h => .inl (e.rd (fun ps z => nomatch z) h)) .inr
section
variable {X : Cx}
def tMinLam (K : PySem.W.Frag) (T : List (Addr × Str)) (j : Nat) (te : TE) : TE := fun σ H Q => te σ H fun v H1 => ∃ (a l : Addr) (ns ks : List Int), v = .ref a ∧ SqT K H1 a (ns.map V.int) ∧ σ[j]? = some (some (.ref l)) ∧ SqL K H1 l (ks.map V.int) ∧ 0 < ns.length ∧ (∀ n ∈ ns, 0 ≤ n ∧ n < ks.length) ∧
  Tabs T H1 ∧ ∀ (m : Int) (H2 : Hp), ExtN H1 H2 → Tabs T H2 → LeastAt ks ns m → Q (.int m) H2
/-- min(e, key=lambda x: y[x]), y a name of the def that it shares with the lambda -/
theorem pe_minlam {T : List (Addr × Str)} {c P : Addr} {p p1 p2 p3 lpos kpos pos : Pos} {e : Expr} {te : TE} {x y : Str} {j : Nat} {params : Arguments} {scope : Scope}
    (hg : Gl X "min") (hm : X.mg "min" = none) (he : PE X e te) (hd : X.A.depth < recursionLimit) (hh : X.A.handled = none) (TB : TabB X.base X.mg c P) (hcode : X.env.code = .ref c) (hmT : (P, X.env.qual ++ "<lambda>") ∈ T)
    (hu : ∀ q ∈ T, q.1 = P → q.2 = X.env.qual ++ "<lambda>") (S : LSc scope x y) (hfy : X.env.scope.names.lookup y = some .cell) (hfr : ∀ z ∈ scope.names, z.2 = .free → z.1 = y) (hN : X.N[j]? = some y) (hdef : defaultsOf params X.env = ([], []))
    (hbind : ∀ (q : Str) (cl : List (Str × Addr)) (pm cv ctv v : Value), bindArgs (PySem.W.kla_fn "<lambda>" q params (.Subscript (.Name y p1) (.Name x p2) p3) scope cl pm cv ctv) ⟨[v], []⟩ = pure [(x, v)])
    (hs : starEach [e] X.env = (false, eval e X.env) :: starEach [] X.env := by rfl)
    (hdx : (x == ("__debug__" : Str)) = false := by decide) (hdy : (y == ("__debug__" : Str)) = false := by decide) (hcy : (y == ("__classdict__" : Str)) = false := by decide) :
    PE X (.Call (.Name "min" p) [e] [⟨some "key", .Lambda params (.Subscript (.Name y p1) (.Name x p2) p3) scope lpos, kpos⟩] pos) (tMinLam X.K T j te) := by
  refine ⟨fun pins s σ H Q I h => ?_⟩
  have hfree : ∀ z ∈ scope.names, z.2 = .free → ∃ c, X.env.cells.lookup z.1 = some c := fun z hz e => I.ok.has _ (.inl (by rw [hfr z hz e]; exact hfy))
  refine wpAny_Call_Name_kw (ld_blt I hg hm (u := .builtin "min") (by decide +kernel) ?_)
  refine PyProof.Rows.callWith_kw ?_ (by rw [hs]; rfl) (by rw [hs]; rfl) (by rfl) (by rfl)
  rw [hs]
  show wpAny _ _ (spliced ((false, eval e X.env) :: backTo pos (starEach [] X.env))) _ _ s
  refine Calls.spliced_cons (thn (he.run pins s σ H _ I h) fun u s1 ⟨v, H1, I1, r1, a, l, ns, ks, ev, ht, hσ, hl, hne, hin, hT, q⟩ => Calls.spliced_nil ?_)
  subst ev
  obtain rfl : u = Value.ref a := r1
  show wpAny _ _ (evalAll ((do let v ← eval (.Lambda params (.Subscript (.Name y p1) (.Name x p2) p3) scope lpos) X.env; standAt pos; pure v) :: [])) _ _ s1
  refine wpAny_evalAll_cons (wpAny_bind (lam_make2 I1 TB hcode hmT hu hT hdef hfree fun f c' pm ctv H2 s2 I2 eN T2 hf hfn hff hco => wpAny_bind (wpAny_standAt (wpAny_pure (wpAny_evalAll_nil ?_)))))
  show wpAny _ _ (call (.builtin "min") [.ref a] [(Str.ofString "key", .ref f)]) _ _ s2
  obtain ⟨cs, rc, tc, _⟩ := I2.tuple (eN.sqT ht)
  obtain ⟨us, ru, pl, hz2⟩ := I2.list (eN.sqL hl)
  obtain ⟨m, _, look⟩ := I2.loc
  obtain ⟨u0, r0, lk⟩ := look j y _ hN hσ (.inr (.inl hfy))
  obtain rfl : u0 = Value.ref l := r0
  have cellAt : ∃ ck, X.env.cells.lookup y = some ck ∧ s2.heap.IsCell ck (some (.ref l)) := by
    rcases lk with ⟨k, _⟩ | ⟨_, ck, e1, e2⟩
    · rw [show X.env.kindOf y = some .cell from hfy] at k
      cases k
    · exact ⟨ck, e1, e2⟩
  obtain ⟨ck, eck, hcell⟩ := cellAt
  obtain ⟨⟨oc, vs, tk, o1, o2, o3⟩, _, _⟩ := I2.hok c' _ hco
  have lc : cs.length = ns.length := by rw [← rc.length, List.length_map]
  have lu : us.length = ks.length := by rw [← ru.length, List.length_map]
  have nsAt : ∀ i, i < ns.length → ∃ t, cs[i]? = some (.int (ns.getD i 0) t) := fun i hi => by
    obtain ⟨z, ez, rz⟩ := rc.get (i := i) (x := V.int (ns.getD i 0)) (by rw [List.getElem?_map, List.getD_eq_getElem?_getD, List.getElem?_eq_getElem hi]; rfl)
    obtain ⟨t, rfl⟩ := rz
    exact ⟨t, ez⟩
  refine min_lam (ns := fun i => ns.getD i 0) (kf := fun i => ks.getD (ns.getD i 0).toNat 0) hh S hd ⟨hf, ⟨oc, vs, tk, o1, o2, o3⟩, I2.nolimit, NdefX.clo_has hfree (PySem.mem_of_lookup S.fy) eck, hcell, pl.isList⟩ (fun v => hbind _ _ _ _ _ v) hdx hdy hcy tc (fun i hi => nsAt i (by omega)) (by omega)
    (fun i hi => ?_) fun v h' tk2 hv kp => ?_
  · have hi' : i < ns.length := by omega
    have hmem : ns.getD i 0 ∈ ns := by rw [List.getD_eq_getElem?_getD, List.getElem?_eq_getElem hi']; exact List.getElem_mem hi'
    obtain ⟨b0, b1⟩ := hin _ hmem
    have hs63 := line63
    rw [List.length_map] at hz2
    have hk' : (ns.getD i 0).toNat < ks.length := by omega
    obtain ⟨z, ez, rz⟩ := ru.get (i := (ns.getD i 0).toNat) (x := V.int (ks.getD (ns.getD i 0).toNat 0)) (by rw [List.getElem?_map, List.getD_eq_getElem?_getD (l := ks), List.getElem?_eq_getElem hk']; rfl)
    obtain ⟨t, rfl⟩ := rz
    exact ⟨b0, by omega, t, ez⟩
  · obtain ⟨n, en⟩ : ∃ n, ns.length = n + 1 := ⟨ns.length - 1, by omega⟩
    have fl := best_is (fun i => ks.getD (ns.getD i 0).toNat 0) n
    rw [← en] at fl
    rw [lc, show ns.length - 1 = n by omega] at hv
    obtain ⟨t, et⟩ := nsAt _ fl.1
    rw [et] at hv
    cases hv
    exact ⟨.int _, H2, I2.kept kp, ⟨t, rfl⟩, q _ H2 eN T2 ⟨_, fl, rfl⟩⟩
end
end Cl

set_option Elab.async false
set_option linter.all false
set_option maxRecDepth 100000
set_option maxHeartbeats 2000000
/-! own rule: list(o), o an instance with an __iter__ over its tuple and a __len__ -/
namespace Tw
open PySem PySem.Spec PyProof.Rows L2
def rListO (K : PySem.W.Frag) (C : Addr) (fld : Str) (sp : Sp) (E : XK) : List V → Hp → VK → Prop := fun xs H Q => ∃ (a dx : Addr) (fs : List (Str × V)) (t : Addr) (zs : List V), xs = [.ref a] ∧ H a = some (.ins C dx fs) ∧ fs.lookup fld = some (.ref t) ∧ SqT K H t zs ∧ zs.length ≤ 900 ∧
  sp [.ref a] H (fun v H' => ∃ n : Nat, v = .int n ∧ n < 1000 ∧ H' = H) E ∧ ∀ q, H q = none → Q (.ref q) (upd H q (.lst zs))
theorem ty_ne {a b : String} (h : Value.type a = Value.type b) (n : decide (a = b) = false) : False := by
  injection h with h
  exact of_decide_eq_false n h
theorem if_yes {α : Type} {M : Model} {A : Around} {E : Value → Shared → Prop} {s : Shared} {c : Bool} {a b : Sem α} {Q : α → Shared → Prop} (hc : c = true) (h : wpAny M A a Q E s) : wpAny M A (if c = true then a else b) Q E s := by
  rw [hc, if_pos rfl]
  exact h
section
variable {X : Cx} {k : Nat} {f : Addr} {fd : FuncData} {ps : List Str} {sp : Sp} {A1 : Around} {pins : List (Addr × Obj)} {σ : L2.St} {H : Hp} {s : Shared} {Q : VK}
/-- a def that raises nothing, called within a built-in -/
theorem run_sub0 {us : List Value} {vs : List V} {R : Value → Shared → Prop} (F : FnOk X.prog X.w X.K X.mg X.base CX0 k f fd ps sp) (sb : Sub X k A1) (hb : L2.Binds X.K fd ps []) (I : Inv X pins σ H s) (r : Vals vs us) (h : sp vs H Q E0) :
    wpAny (model X.prog X.w) A1 (call (.ref f) us) (EP X pins σ Q) R s := by
  have hl : us.length = ps.length := by rw [← r.length]; exact F.len _ _ _ _ h
  have hb1 : BindsTo s fd ⟨us, []⟩ (ps.zip us) := by
    have z := hb s us I.kIn (by rw [List.append_nil]; exact hl)
    rw [List.append_nil] at z
    exact z
  refine wpAny_call (codeAny_mono (F.run A1 X.stack s H ⟨us, []⟩ us vs Q E0 sb.room (Sub.env0 sb I) hb1 r h) fun z s' hq => ?_)
  match z, hq with
  | .error e, hq => exact False.elim hq
  | .ok (.ret u), hq => exact I.after hq
  | .ok .next, hq => exact False.elim hq
  | .ok .brk, hq => exact False.elim hq
  | .ok .cont, hq => exact False.elim hq
end
section
variable {X : Cx} {kI k : Nat} {fi fl C : Addr} {fdI fdL : FuncData} {psL : List Str} {spL : Sp} {fld : Str}
theorem call_listO (hdI : Dn X.K C "__iter__" fi) (FI : FnIt X.prog X.w X.K X.mg X.base k fi fdI ["self"] (spIter X.K C fld)) (bI : L2.Binds X.K fdI ["self"] [])
    (hdL : Dn X.K C "__len__" fl) (FL : FnOk X.prog X.w X.K X.mg X.base CX0 k fl fdL psL spL) (bL : L2.Binds X.K fdL psL []) (hr : Room (k + 3) X.A) : CallR X (.type "list") (rListO X.K C fld spL E0) := by
  intro pins s σ H xs us Q I rv h
  obtain ⟨a, dx, fs, t, zs, rfl, ha, hf, ht, hz, hlen, q⟩ := h
  obtain ⟨u, rfl, ru⟩ := rv.one
  cases ru
  have sb1 : Sub X (k + 1) X.A.in1.in1 := Sub.in1 (Sub.in1 (⟨hr, rfl⟩ : Sub X (k + 3) X.A))
  have sb : Sub X k X.A.in1.in1 := sb1.mono (Nat.le_succ k)
  refine callType_codes (Q₁ := fun obj s₁ => obj = .ref s.heap.objs.size ∧ s₁ = { s with heap := s.heap.push { cls := .type "list", data := .seq #[] } }) PySem.F.called_list (PySem.F.typeCall_list_1 _) PySem.F.entry_list_init
    (code_list_new _ ⟨rfl, rfl⟩) fun obj s₁ h₁ => ?_
  obtain ⟨rfl, rfl⟩ := h₁
  have hS : (s.heap.push { cls := .type "list", data := .seq #[] }).get? s.heap.objs.size = some { cls := .type "list", data := .seq #[] } := Heap.get?_push_size _ rfl
  refine ⟨⟨_, hS, rfl⟩, PySem.F.args_list_init_2 _ _, ?_⟩
  have nS : H s.heap.objs.size = none := I.hok.fresh (Nat.le_refl _)
  have fS : FpOk X pins H s.heap.objs.size := I.fpOk (Nat.le_refl _) nS
  have I1 : Inv X pins σ H { s with heap := s.heap.push { cls := .type "list", data := .seq #[] } } := I.kept (t' := s.toks) fun b u e => Heap.get?_push_of_some _ e
  show wpAny _ _ (do let old ← Builtin.List.listItems (.ref s.heap.objs.size); Builtin.List.listUpdate (.ref s.heap.objs.size) (fun _ => #[]); letGo old.toList.reverse; Builtin.List.listExtendWith (.ref s.heap.objs.size) (.ref a) .none) _ _ _
  refine wpAny_bind ?_
  unfold Builtin.List.listItems
  refine wpAny_bind (wpAny_seqItems hS rfl (wpAny_pure ?_))
  show wpAny _ _ (updateSeq s.heap.objs.size (fun _ => #[]) >>= fun _ => letGo (#[] : Array Value).toList.reverse >>= fun _ => Builtin.List.listExtendWith (.ref s.heap.objs.size) (.ref a) .none) _ _ _
  refine wpAny_bind (wpAny_updateSeq hS rfl ?_)
  have hS2 := Heap.get?_update_self (h := s.heap.push { cls := .type "list", data := .seq #[] }) (f := Obj.mapSeq fun _ => #[]) hS rfl
  have I2 := I1.turnedL (h' := (s.heap.push { cls := .type "list", data := .seq #[] }).update s.heap.objs.size (Obj.mapSeq fun _ => #[])) (t' := s.toks) (ch := [s.heap.objs.size]) (fun b o hb e => (Heap.get?_update_other _ _ (fun z => hb (by simp [z]))).trans e) (fun b hb => by rw [List.mem_singleton.mp hb]; exact fS)
  refine wpAny_bind (wpAny_letGo ?_)
  generalize hSa : s.heap.objs.size = S at *
  generalize hh2 : (s.heap.push { cls := .type "list", data := .seq #[] }).update S (Obj.mapSeq fun _ => #[]) = h2 at *
  have szS : S < h2.objs.size := Heap.lt_size hS2
  obtain ⟨mA, O, rr, _, _, _⟩ := ins_get I2.hok ha
  obtain ⟨od, J, hl⟩ := O.look
  obtain ⟨m0, hF⟩ := I2.fr
  have hne : S ≠ a := fun z => by rw [← z] at ha; rw [nS] at ha; cases ha
  have h1 : Builtin.List.listSameRef (.ref S) (.ref a) = false := by simp [Builtin.List.listSameRef, hne]
  unfold Builtin.List.listExtendWith
  refine wpAny_bind (J.type.here ?_)
  have n2 : (Value.ref C == Value.type "list") = false := rfl
  have n3 : (Value.ref C == Value.type "tuple") = false := rfl
  simp only [h1, n2, n3, Bool.or_false, Bool.false_eq_true, if_false]
  have I2p := I2.pinned (fp := [S]) (fun b hb => by rw [List.mem_singleton.mp hb]; exact fS) (fun b hb => by rw [List.mem_singleton.mp hb]; exact ⟨_, hS2, fun v z => nomatch z⟩)
  refine wpAny_bind (PySem.W.owit_iter hF I2.ok.mod.kin J hdI.at_ hdI.fn (thn (run_iter FI sb bI I2p ha hf ht) fun r s3 ⟨it, er, hn, h0, I3⟩ => ?_))
  subst er
  have e2 : upd H it (ItT t it 0) it = some (ItT t it 0) := upd_same
  have g : s3.heap.get? it = some (itTup t 0) := (I3.hok it _ e2).1
  have hS3 := (I3.pin (S, _) (List.mem_append_right _ (List.mem_append_right _ (mem_pinsAt (List.mem_singleton.mpr rfl) hS2)))).1
  have hTy : s3.TypeIs (.ref it) "tuple_iterator" := ⟨_, g, rfl⟩
  have fIt := ItX.inv_fp I3 e2 (Nat.le_trans I2.sz hn)
  have I4 := ItX.inv_drop I3 e2
  rw [ItX.dropH_upd h0] at I4 fIt
  unfold PySem.W.OwitIt
  refine wpAny_specialOf (name := Str.ofString "__next__") hTy PySem.F.slot_tuple_iterator_next.lookup ?_
  have I5 := I4.pinned (fp := [it]) (fun b hb => by rw [List.mem_singleton.mp hb]; exact fIt) (fun b hb => by rw [List.mem_singleton.mp hb]; exact ⟨_, g, fun v z => nomatch z⟩)
  show wpAny _ X.A.in1.in1 (holding [.ref it] (Builtin.List.listLengthHint (.ref a)) >>= _) _ _ s3
  obtain ⟨mA5, O5, rr5, _, _, _⟩ := ins_get I5.hok ha
  obtain ⟨od5, J5, hl5⟩ := O5.look
  obtain ⟨m5, hF5⟩ := I5.fr
  refine wpAny_bind (wpAny_holding ?_)
  have lenOk : ∀ {R : Value → Shared → Prop}, wpAny (model X.prog X.w) X.A.in1.in1 (call (.builtin "len") [.ref a]) (fun r s' => ∃ (n : Nat) (tk : Tok), r = .int n tk ∧ n < 1000 ∧ Inv X (pins ++ pinsAt [S] h2 ++ pinsAt [it] s3.heap) σ H s') R s3 := by
    intro R
    refine PySem.W.len_K hF5 I5.ok.mod.kin J5 hdL.at_ hdL.fn (thn (run_sub0 FL (Sub.in1 (Sub.mono sb1 (Nat.le_refl _))) bL I5 (.cons (relR a) .nil) hlen) fun r s' ⟨z, H', I', rz, n, ez, hn, eH⟩ => ?_)
    subst ez
    rw [eH] at I'
    obtain ⟨tk, rfl⟩ := rz
    exact ⟨⟨by omega, by omega⟩, n, _, rfl, hn, I'.tok _⟩
  unfold Builtin.List.listLengthHint
  refine wpAny_bind (wpAny_bind (J5.type.here ((PySem.W.looks_findIn I5.kIn hdL.at_).here ?_)))
  refine PySem.W.KFB.if_not rfl ?_
  refine if_yes rfl ?_
  refine wpAny_bind (wpAny_rule ?_)
  refine wpAny_bind (wpAny_attempt (thn lenOk fun r s6 ⟨n, tk, er, hn6, I6⟩ => ?_))
  subst er
  refine wpAny_bind (wpAny_of_eq (a := some ((n : Nat) : Int)) (by rfl) ?_)
  refine PySem.W.KFB.if_not (by unfold Builtin.List.listTooLong; exact decide_eq_false (by rw [sizeLine_eq, Int.toNat_natCast]; omega)) ?_
  refine wpAny_pure ?_
  -- the loop
  have I7 : Inv X pins σ H s6 := I6.unpinned.unpinned
  have hS6 := (I6.pin (S, _) (List.mem_append_right _ (List.mem_append_left _ (List.mem_append_right _ (mem_pinsAt (List.mem_singleton.mpr rfl) hS2))))).1
  have g6 := (I6.pin (it, _) (List.mem_append_right _ (List.mem_append_right _ (mem_pinsAt (List.mem_singleton.mpr rfl) g)))).1
  have fIt2 : FpOk X pins H it := ⟨fIt.1, fIt.2.1, fIt.2.2.1, fIt.2.2.2.1, fIt.2.2.2.2.1, fun p hp => fIt.2.2.2.2.2 p ((List.mem_append.mp hp).elim (fun z => List.mem_append_left _ z) fun z => List.mem_append_right _ (List.mem_append_left _ z))⟩
  have Sne' : S ≠ it := fun z => by
    rw [z, g6] at hS6
    exact ty_ne (show Value.type "tuple_iterator" = Value.type "list" from congrArg Obj.cls (Option.some.inj hS6)) (by decide +kernel)
  have loop : ∀ (s7 : Shared) (c : Nat), Inv X pins σ H s7 → s7.heap.get? S = some { cls := .type "list", data := .seq #[] c } → s7.heap.get? it = some (itTup t 0) →
      codeAny (model X.prog X.w) X.A.in1 (.builtin "list.extend.loop" ⟨[.ref S, .ref it, .none], []⟩) (wants (fun r s₂ => r = .none ∧ EP X pins σ Q (.ref S) s₂) X.xe) s7 := by
    intro s7 c J7 hS7 g7
    obtain ⟨its, rz, pl, hz2⟩ := J7.tuple ht
    have tne : t ≠ it := fun z => by
      obtain ⟨o, e1, e2, _⟩ := pl
      rw [z, g7] at e1
      rw [← Option.some.inj e1] at e2
      exact ty_ne (show Value.type "tuple_iterator" = Value.type "tuple" from e2) (by decide +kernel)
    have Sne : S ≠ it := fun z => by
      rw [z, g7] at hS7
      exact ty_ne (show Value.type "tuple_iterator" = Value.type "list" from congrArg Obj.cls (Option.some.inj hS7)) (by decide +kernel)
    have St : S ≠ t := fun z => by
      obtain ⟨o, e1, e2, _⟩ := pl
      rw [← z, hS7] at e1
      rw [← Option.some.inj e1] at e2
      exact ty_ne (show Value.type "list" = Value.type "tuple" from e2) (by decide +kernel)
    have li : its.length = zs.length := rz.length.symm
    have W := (PySem.Walks.tuple (prog := X.prog) (w := X.w) (A := X.A.in1.in1) sb1.room.hd it t tne its.toArray).toS
    refine PySem.codeAny_extend_loopS (A := X.A.in1) W (by rw [List.size_toArray, sizeLine_eq]; omega) S (fun z => ?_) .none _ 0 s7 #[] c rfl (Nat.zero_le _) ⟨⟨_, g7, rfl, rfl⟩, pl⟩ hS7 (PySem.ItemsOf.nil _) fun s8 acc c8 m hS8 hit => ?_
    · rcases List.mem_cons.mp z with z | z
      · exact Sne z
      · exact St (List.mem_singleton.mp z)
    have eacc : acc = its.toArray := by
      refine Array.ext_getElem? fun j => ?_
      by_cases hj : j < acc.size
      · rw [Array.getElem?_eq_getElem hj]
        exact (hit.2 j _ (Array.getElem?_eq_getElem hj)).symm
      · rw [Array.getElem?_eq_none (by omega), Array.getElem?_eq_none (by rw [← hit.1]; omega)]
    subst eacc
    have J8 := J7.turnedL (h' := s8.heap) (t' := s8.toks) (ch := [S, it]) (fun b o hb e => m.heap b o hb e) (fun b hb => by
      rcases List.mem_cons.mp hb with z | z
      · rw [z]; exact fS
      · rw [List.mem_singleton.mp z]; exact fIt2)
    have J9 := J8.take (h' := s8.heap) (t' := s8.toks) (it := S) (o := .lst zs) (fun _ _ _ e => e) fS ⟨by rw [sizeLine_eq]; omega, its, c8, rz, hS8⟩
    have e8 : s8 = { s7 with heap := s8.heap, toks := s8.toks } := Moved.eq_with m
    rw [e8]
    exact ⟨rfl, .ref S, _, J9, rfl, q S nS⟩
  refine wpAny_ite_split (fun _ => ?_) (fun _ => wpAny_pure ⟨plainId_quiet PySem.F.plain_extend_loop _, loop s6 _ I7 hS6 g6⟩)
  refine wpAny_bind (wpAny_rule ?_)
  refine wpAny_bind ?_
  show wpAny _ _ (updateSeq S (·.push .none) >>= fun _ => updateSeq S (·.pop)) _ _ _
  refine wpAny_bind (wpAny_updateSeq hS6 rfl ?_)
  have e9 := Heap.get?_update_self (h := s6.heap) (f := Obj.mapSeq (·.push Value.none)) hS6 rfl
  refine wpAny_updateSeq e9 rfl ?_ (by show 1 ≤ sizeLine; rw [sizeLine_eq]; decide) (by show 0 ≤ sizeLine + 1; exact Nat.zero_le _)
  have e10 := Heap.get?_update_self (h := s6.heap.update S (Obj.mapSeq (·.push Value.none))) (f := Obj.mapSeq (·.pop)) e9 rfl
  have J := I7.turnedL (h' := (s6.heap.update S (Obj.mapSeq (·.push Value.none))).update S (Obj.mapSeq (·.pop))) (t' := s6.toks) (ch := [S]) (fun b o hb e => (Heap.get?_update_other _ _ (fun z => hb (by simp [z]))).trans ((Heap.get?_update_other _ _ (fun z => hb (by simp [z]))).trans e)) (fun b hb => by rw [List.mem_singleton.mp hb]; exact fS)
  refine wpAny_pure ⟨plainId_quiet PySem.F.plain_extend_loop _, loop _ _ J e10 ?_⟩
  exact (Heap.get?_update_other _ _ Sne').trans ((Heap.get?_update_other _ _ Sne').trans g6)
end
end Tw

set_option Elab.async false
set_option linter.all false
set_option maxRecDepth 100000
set_option maxHeartbeats 2000000
/-! own rule: sorted(t), t a tuple of whole numbers -/
namespace Tw
open PySem PySem.Spec PyProof.Rows L2
section
variable {prog : Program} {w : World} {A : Around} {E : Value → Shared → Prop} {s : Shared}
/-- a tuple's items, gathered: they are met as a list's are -/
theorem gather_tup {t : Addr} {vs : List Value} {Q : List Value → Shared → Prop} (ht : s.heap.IsTuple t vs.toArray)
    (h : Q vs { s with heap := (s.heap.push (seqObj "list" #[] 0)).update s.heap.objs.size (Obj.mapSeq (· ++ vs.toArray)) }) (hz : vs.length ≤ sizeLine) :
    wpAny (model prog w) A (collect (.ref t)) Q E s := by
  obtain ⟨o, ho, hc, n, hd⟩ := ht
  unfold collect
  refine wpAny_bind (wpAny_runValue (codeAny_builtin entry_proto_collect' ?_))
  show wpAny _ _ (do again (.builtin "list.__iadd__" ⟨[← newList [], .ref t], []⟩)) _ _ s
  refine wpAny_bind (wpAny_newList (wpAny_pure ⟨Code.quiet_builtin _ (by decide +kernel), codeAny_builtin entry_list_iadd' ?_⟩))
  show wpAny _ _ (Builtin.List.listExtendWith (.ref s.heap.objs.size) (.ref t) (.ref s.heap.objs.size)) _ _ { s with heap := s.heap.push (seqObj "list" #[] 0) }
  have ho2 : (s.heap.push (seqObj "list" #[] 0)).get? t = some o := Heap.get?_push_of_some _ ho
  unfold Builtin.List.listExtendWith
  refine wpAny_bind (wpAny_typeOf (T := "tuple") ⟨o, ho2, hc⟩ ?_)
  have tt : (Value.type "tuple" == Value.type "tuple") = true := by rfl
  rw [if_pos (by rw [tt]; simp)]
  refine wpAny_bind (listItems_at ho2 hd ?_)
  refine wpAny_bind (listItems_at (xs := #[]) (n := 0) (Heap.get?_push_size _ rfl) rfl ?_)
  rw [if_neg (by simp)]
  refine wpAny_bind (listUpdate_at (xs := #[]) (n := 0) (Heap.get?_push_size _ rfl) rfl ?_ (Nat.zero_le _) (by show (#[] ++ vs.toArray).size ≤ sizeLine + 1; simp only [Array.size_append, List.size_toArray, List.length_nil]; omega))
  refine wpAny_pure ?_
  refine wpAny_bind (wpAny_load (get?_update_seq (Heap.get?_push_size _ rfl) _) ?_)
  show wpAny _ _ (pure ((#[] : Array Value) ++ vs.toArray).toList) Q E _
  rw [show ((#[] : Array Value) ++ vs.toArray).toList = vs by simp]
  exact wpAny_pure h
end
def rSortedTu (K : PySem.W.Frag) : List V → Hp → VK → Prop := fun vs H Q => ∃ (a : Addr) (ns : List Int), vs = [V.ref a] ∧ SqT K H a (ns.map V.int) ∧
  ∀ (ns' : List Int) (p : Addr), ns'.Perm ns → ns'.Pairwise (· ≤ ·) → H p = none → Q (.ref p) (upd H p (.lst (ns'.map V.int)))
section
variable {X : Cx}
theorem cr_sortedTu : CallR X (.builtin "sorted") (rSortedTu X.K) := by
  intro pins s σ H vs us Q I r h
  obtain ⟨a, ns, rfl, hs, q⟩ := h
  obtain ⟨its, rv, hl, hz⟩ := I.tuple hs
  rw [Vals.ref1 r]
  have hi := rv.ints
  have hzi : its.length ≤ sizeLine := by rw [← rv.length]; exact hz
  refine Calls.call_function_entry kind_sorted plain_sorted entry_sorted (args_sorted1 _) ?_
  unfold Builtin.«sorted»
  refine wpAny_bind (m := checkCount "sorted" 1 1 _) (wpAny_pure ?_)
  refine wpAny_bind (gather_tup hl ?_ hzi)
  refine wpAny_bind (wpAny_newList ?_ hzi)
  have hsz : ((s.heap.push (seqObj "list" #[] 0)).update s.heap.objs.size (Obj.mapSeq (· ++ its.toArray))).objs.size = s.heap.objs.size + 1 := by
    rw [Heap.size_update, size_push']
  have hoL : (((s.heap.push (seqObj "list" #[] 0)).update s.heap.objs.size (Obj.mapSeq (· ++ its.toArray))).push (seqObj "list" its.toArray 0)).get? (s.heap.objs.size + 1) = some (seqObj "list" its.toArray 0) := by
    rw [← hsz]
    exact Heap.get?_push_size _ rfl
  show wpAny _ _ _ _ _ { s with heap := ((s.heap.push (seqObj "list" #[] 0)).update s.heap.objs.size (Obj.mapSeq (· ++ its.toArray))).push (seqObj "list" its.toArray 0) }
  rw [hsz]
  refine wpAny_bind (wpAny_holding (wpAny_call_entry slot_list_sort ⟨_, hoL, rfl⟩ entry_list_sort (SrtO.list_sort_ord SrtO.swo_int hoL hzi (fun h2 => SrtO.ints_sortable hi h2) fun out h1 h2 => ⟨_, rfl, ?_⟩) (args_list_sort _)))
  refine wpAny_pure ⟨_, rfl, ?_⟩
  obtain ⟨k1, k2, k3⟩ := SrtO.ints_out hi h1 h2
  obtain ⟨ep, he'⟩ := PyProof.Rows.sortedAll_at s.heap its out.toArray
  have hlen : ((out.map SrtO.iv).map V.int).length ≤ sizeLine := by
    rw [List.length_map, k2.length_eq]
    rw [List.length_map] at hz
    exact hz
  exact ⟨.ref _, upd H (s.heap.objs.size + 1) (.lst ((out.map SrtO.iv).map V.int)), I.laid (t' := s.toks) (fun _ _ => PyProof.Rows.sortedAll_old) (Nat.le_succ _) ⟨hlen, out, ep, vals_of_ints k1, he'⟩, rfl, q _ _ k2 k3 (I.hok.fresh (Nat.le_succ _))⟩
end
end Tw

set_option Elab.async false
set_option linter.all false
set_option maxRecDepth 100000
set_option maxHeartbeats 1000000
/-! != of two tuples of two things, equal ones in turn -/
namespace Cq
open PySem PySem.SeqAt
open AutoSeq1 (wpAny_loadPart')
open MeetsSeq MeetsSeq2 MeetsSeq3 SeqRoads2
theorem pairs_ne {prog : Program} {w : World} {A : Around} {R : Result → Shared → Prop} {p q : Addr} {a b c e : Value} {k k2 : Nat} {u u2 : Option Addr} {z z2 : Array (Option Value)} {s : Shared}
    (hp : s.heap.get? p = some { cls := .type "tuple", dict := u, data := .seq #[a, b] k, slots := z }) (hq : s.heap.get? q = some { cls := .type "tuple", dict := u2, data := .seq #[c, e] k2, slots := z2 })
    (h : wpAny (model prog w) A.in1 (eqBool a c) (fun r s1 => r = true ∧ wpAny (model prog w) A.in1 (eqBool b e) (fun r s2 => r = true ∧ R (.ok (.ret (.bool false))) s2) (fun x s2 => R (.error x) s2) s1) (fun x s1 => R (.error x) s1) s) :
    wpAny (model prog w) A.in1 (Builtin.«tuple.__ne__» ⟨[.ref p, .ref q], []⟩) (GQ.FinOf prog w A R) (fun x s1 => R (.error x) s1) s := by
  have sub2 := AutoSeq1.sub_tuple_tuple
  obtain ⟨hh, gg, dd, tk, os⟩ := s
  wp_walk using wpAny_loadPart' hp, wpAny_loadPart' hq, wpAny_forIn_list _ (fun rest t s1 => t.1 = none ∧ ((rest = [(a, c), (b, e)] ∧ wpAny (model prog w) A.in1 (eqBool a c) (fun r s1 => r = true ∧ wpAny (model prog w) A.in1 (eqBool b e) (fun r s2 => r = true ∧ R (.ok (.ret (.bool false))) s2) (fun x s2 => R (.error x) s2) s1) (fun x s1 => R (.error x) s1) s1) ∨
    (rest = [(b, e)] ∧ wpAny (model prog w) A.in1 (eqBool b e) (fun r s2 => r = true ∧ R (.ok (.ret (.bool false))) s2) (fun x s2 => R (.error x) s2) s1) ∨ (rest = [] ∧ R (.ok (.ret (.bool false))) s1))) _
  case turn =>
    rintro ⟨y, x⟩ rest t s1 ⟨ht, ⟨e1, h1⟩ | ⟨e1, h1⟩ | ⟨e1, _⟩⟩
    · injection e1 with e1 e2
      injection e1 with e3 e4
      subst e3 e4 e2
      refine wpAny_bind (wpAny_mono h1 (fun r s2 g => ?_) fun _ _ g => g)
      obtain ⟨rfl, g⟩ := g
      wp_walk
      exact ⟨rfl, .inr (.inl ⟨rfl, g⟩)⟩
    · injection e1 with e1 e2
      injection e1 with e3 e4
      subst e3 e4 e2
      refine wpAny_bind (wpAny_mono h1 (fun r s2 g => ?_) fun _ _ g => g)
      obtain ⟨rfl, g⟩ := g
      wp_walk
      exact ⟨rfl, .inr (.inr ⟨rfl, g⟩)⟩
    · cases e1
  case fin =>
    rintro ⟨t1, t2⟩ s1 ⟨ht, ⟨e1, _⟩ | ⟨e1, _⟩ | ⟨_, h1⟩⟩
    · cases e1
    · cases e1
    · simp only at ht
      subst ht
      wp_walk
      simpa [Builtin.Tuple.tupleCompareSizes] using h1
  case h => exact ⟨rfl, .inl ⟨rfl, h⟩⟩
end Cq
namespace L2
open PySem PySem.Spec PyProof.Rows
theorem vals_two {a b : V} {l : List Value} (r : Vals [a, b] l) : ∃ x y, l = [x, y] ∧ RelV a x ∧ RelV b y := by
  cases r with
  | cons ra r =>
    cases r with
    | cons rb r =>
      cases r
      exact ⟨_, _, rfl, ra, rb⟩
def DPair (K : PySem.W.Frag) (D1 D2 : Eqv) : Eqv := fun x y H => ∃ (p q : Addr) (a b c e : V), x = .ref p ∧ y = .ref q ∧ SqT K H p [a, b] ∧ SqT K H q [c, e] ∧ D1 a c H ∧ D2 b e H
def rNeP (D : Eqv) : R2 := fun x y H Q => D x y H ∧ ∀ H', Ext H H' → Q (.bl false) H'
theorem op_neP {X : Cx} {n : Nat} {D1 D2 : Eqv} (g1 : EqG X n D1) (g2 : EqG X n D2) (m2 : Mon D2) (hr : Room (n + 1) X.A) : OpR X (compareOp .NotEq) (rNeP (DPair X.K D1 D2)) := by
  intro pins s σ H x y v u Q I rx ry ⟨⟨p, q, a, b, c, e, ex, ey, hp, hq, d1, d2⟩, k⟩
  subst ex ey
  cases rx
  cases ry
  have sb : Sub X (n + 1) X.A := ⟨hr, rfl⟩
  obtain ⟨its, r, e1, _⟩ := I.tuple hp
  obtain ⟨its2, r2, e2, _⟩ := I.tuple hq
  obtain ⟨va, vb, ei, ra, rb⟩ := vals_two r
  obtain ⟨vc, ve, ei2, rc, re⟩ := vals_two r2
  subst ei ei2
  obtain ⟨⟨cl, u1, da, z1⟩, o1, c1, n1, w1⟩ := id e1
  obtain ⟨⟨cl2, u2, da2, z2⟩, o2, c2, n2, w2⟩ := id e2
  dsimp only at c1 w1 c2 w2
  subst c1 w1 c2 w2
  show wpAny (model X.prog X.w) X.A (richCompare .NotEq (.ref p) (.ref q)) (EP X pins σ Q) X.xe s
  refine wpAny_richCompare_same_room (op := .NotEq) ⟨_, o1, rfl⟩ ⟨_, o2, rfl⟩ F.slot_tuple_ne (GQ.call_here F.slot_tuple_ne ⟨_, o1, rfl⟩ F.entry_tuple_ne (F.args_tuple_ne_2 _ _) ?_) hr.units0
  refine Cq.pairs_ne (R := wants (fun v s' => v ≠ .notImplemented ∧ EP X pins σ Q v s') X.xe) o1 o2 ?_
  refine wpAny_mono (g1 X.A.in1 pins s σ H _ _ va vc sb.in1 I ra rc d1) (fun t s1 ⟨ht, H1, I1, x1⟩ => ⟨ht, ?_⟩) fun _ _ g => g
  refine wpAny_mono (g2 X.A.in1 pins s1 σ H1 _ _ vb ve sb.in1 I1 rb re (m2 _ _ _ _ x1 d2)) (fun t s2 ⟨ht, H2, I2, x2⟩ => ⟨ht, ?_⟩) fun _ _ g => g
  exact ⟨(fun g => nomatch g), .bl false, H2, I2, rfl, k H2 (x1.trans x2)⟩
end L2


set_option Elab.async false
set_option linter.all false
set_option maxRecDepth 100000
set_option maxHeartbeats 4000000
/-! set(xs), xs a list of ints, as a value -/
namespace L2
open PySem PySem.Spec PyProof.Rows
section
variable {P : Program} {w : World} {A : Around} {E : Value → Shared → Prop}
/-- the set that is there at first -/
abbrev eS (w : World) : Obj := { cls := .type "set", dict := none, data := .set #[] 0 (.fresh 0 0 (!w.params.followText "set-order")) }
theorem init_over {z : Shared} {D l : Addr} {items : Array Value} {ns : List Int} {R : Result → Shared → Prop} (hh : A.handled = none) (hD : z.heap.get? D = some (eS w)) (hl : z.heap.IsList l items) (hit : IntsAre items.toList ns) (hb : ns.length + 1 < scanBound) (hne : l ≠ D)
    (q : ∀ (h' : Heap) (tk c : Nat), SetR w h' D (fun j => decide (j ∈ ns)) c → c ≤ ns.length → (∀ b o, b ≠ D → z.heap.get? b = some o → h'.get? b = some o) → R (.ok (.ret .none)) { z with heap := h', toks := tk }) :
    codeAny (model P w) A (.call (.builtin "set.__init__") ⟨[.ref D, .ref l], []⟩) R z := by
  have hn : items.size = ns.length := by
    have e := IntsAre.length hit
    rw [Array.length_toList] at e
    exact e
  have hT : Shared.TypeIs z (.ref D) "set" := ⟨_, hD, rfl⟩
  have lD : D < z.heap.objs.size := Heap.lt_size hD
  obtain ⟨⟨oc, od, oa, os⟩, hol, hcl, nl, hdl⟩ := id hl
  have ll : l < z.heap.objs.size := Heap.lt_size hol
  dsimp only at hcl hdl
  subst hcl hdl
  have no1 := F.sub_list_set
  have no2 := F.sub_list_frozenset
  have no3 : (Value.type "list" == Value.type "dict") = false := by decide
  refine codeAny_call_builtin F.called_set.init.plain F.entry_set_init (check_set_init_1 hT ?_)
  unfold Builtin.«set.__init__» noKeywords Builtin.Frozenset.updateFrom
  generalize hPI : pyIter = PI
  wp_walk
  subst hPI
  refine wpAny_pyIter_list hl ?_
  refine wpAny_bind (wpAny_runValue ?_)
  have free3 : A.in1.in1.handled = none := by simp [hh]
  have apart : l ≠ z.heap.objs.size := Nat.ne_of_lt ll
  have offS : D ∉ [z.heap.objs.size, l] := fun m => by
    rcases List.mem_cons.mp m with y | y
    · exact absurd y (Nat.ne_of_lt lD)
    · exact hne (List.mem_singleton.mp y).symm
  have each : ∀ (i : Nat) (v : Value), items[i]? = some v → ∃ k t, ns[i]? = some k ∧ v = .int k t := fun i v e => by
    have hi : i < ns.length := hn ▸ (Array.getElem?_eq_some_iff.mp e).1
    obtain ⟨t, e2⟩ := IntsAre.int_at hit i v (by rw [Array.getElem?_toList]; exact e)
    exact ⟨ns[i], t, List.getElem?_eq_getElem hi, by rw [e2, List.getD_eq_getElem?_getD, List.getElem?_eq_getElem hi]; rfl⟩
  refine set_update_ints ((Walks.list free3 _ l apart items).toS) D offS ns hn hb each (items.size - 0) 0 _ (by omega) (Nat.zero_le _) ?_ ⟨0, Nat.le_refl 0, ?_⟩ ?_
  · exact ⟨⟨_, Heap.get?_push_size _ rfl, rfl, rfl⟩, hl.push _⟩
  · exact setR_new_at (Heap.get?_push_of_some _ hD)
  rintro ⟨h', gens', drawn', tk', os'⟩ c moved hc new
  obtain rfl : gens' = z.gens := moved.gens
  obtain rfl : drawn' = z.drawn := moved.drawn
  obtain rfl : os' = z.os := moved.os
  show wpAny _ _ _ _ _ _
  refine wpAny_pure ?_
  show wpAny _ _ (ret Value.none) _ _ _
  refine wpAny_pure (q h' tk' c new (by omega) fun b o hbD e => ?_)
  have lb : b < z.heap.objs.size := Heap.lt_size e
  refine moved.heap b o (fun m => ?_) (Heap.get?_push_of_some _ e)
  rcases List.mem_cons.mp m with y | y
  · exact hbD y
  · exact absurd (List.mem_singleton.mp y) (Nat.ne_of_lt lb)
theorem set_over {z : Shared} {l : Addr} {items : Array Value} {ns : List Int} {Q : Value → Shared → Prop} (hh : A.handled = none) (hl : z.heap.IsList l items) (hit : IntsAre items.toList ns) (hb : ns.length + 1 < scanBound)
    (q : ∀ (h' : Heap) (tk c : Nat), SetR w h' z.heap.objs.size (fun j => decide (j ∈ ns)) c → c ≤ ns.length → (∀ b o, z.heap.get? b = some o → h'.get? b = some o) → Q (.ref z.heap.objs.size) { z with heap := h', toks := tk }) :
    wpAny (model P w) A (call (.type "set") [.ref l]) Q E z := by
  obtain ⟨c0, t0, mro0⟩ := F.called_set.mro
  have m1 := F.called_set.made
  have m2 := F.called_set.sub
  have m3 := F.called_set.notType
  have m4 := F.called_set.canCreate
  have m5 := F.typeCall_set_1 (.ref l)
  have ll : l < z.heap.objs.size := by
    obtain ⟨o, ho, _⟩ := id hl
    exact Heap.lt_size ho
  refine wpAny_call (codeAny_of_tree ?_)
  show wpAny _ _ (callAny (.type "set") _) _ _ _
  refine wpAny_pure ⟨Code.quiet_builtin _ (by decide +kernel), codeAny_builtin F.entry_type_call ?_⟩
  rw [Around.under_plain (weight_type_call_type "set" [.ref l] []) rfl]
  repeat any_goals first | assumption | wp_step
  have new1 : (z.heap.push (eS w)).get? z.heap.objs.size = some (eS w) := Heap.get?_push_size _ rfl
  refine codeAny_mono (code_set_led1 (.ref l) (E := E) (Q₁ := fun v y => v = .ref z.heap.objs.size ∧ y = { z with heap := z.heap.push (eS w) }) ⟨rfl, rfl⟩) fun r y hr => ?_
  cases r with
  | error e => exact hr
  | ok fl =>
    cases fl with
    | ret v =>
      obtain ⟨rfl, rfl⟩ := hr
      have hT : Shared.TypeIs { z with heap := z.heap.push (eS w) } (.ref z.heap.objs.size) "set" := ⟨_, new1, rfl⟩
      have i1 := F.called_set.init.lookup
      have i2 := F.called_set.init.bind (.ref z.heap.objs.size)
      repeat any_goals first | assumption | wp_step
      refine init_over (A := A.in1) (z := { z with heap := z.heap.push (eS w) }) (D := z.heap.objs.size) (by simp [hh]) new1 (hl.push _) hit hb (Nat.ne_of_lt ll) fun h' tk c S hc k => ?_
      show wpAny _ _ (pure (some Value.none)) _ _ _
      repeat any_goals first | assumption | wp_step
      exact q h' tk c S hc fun b o e => k b o (Nat.ne_of_lt (Heap.lt_size e)) (Heap.get?_push_of_some _ e)
    | _ => exact hr.elim
end
section
variable {X : Cx}
/-- set(xs) -/
def rSetLI (K : PySem.W.Frag) (w : World) : List V → Hp → VK → Prop := fun xs H Q => ∃ (l : Addr) (ns : List Int), xs = [V.ref l] ∧ SqL K H l (ns.map V.int) ∧ ns.length ≤ 1000 ∧ ∀ p n, n ≤ ns.length → H p = none → Q (.ref p) (upd H p (SetO w p (fun j => decide (j ∈ ns)) n))
theorem cr_setLI (hc : X.calm = true) : CallR X (.type "set") (rSetLI X.K X.w) := by
  intro pins s σ H xs us Q I r h
  obtain ⟨l, ns, rfl, hl, h1, q⟩ := h
  obtain ⟨its, rv, pl, _⟩ := I.list hl
  rw [Vals.ref1 r]
  refine set_over (I.ok.hd hc) pl.isList (ns := ns) (by simpa using rv.ints) (by unfold scanBound; omega) fun h' tk c R hc k => ?_
  exact ⟨.ref _, upd H s.heap.objs.size (SetO X.w s.heap.objs.size (fun j => decide (j ∈ ns)) c), I.laid (t' := tk) k (Nat.le_refl _) (setO_new R), rfl, q _ c hc (I.hok.fresh (Nat.le_refl _))⟩
end
end L2

set_option Elab.async false
set_option linter.all false
set_option maxRecDepth 100000
set_option maxHeartbeats 4000000
/-! sorted(xs), xs a list of tuples of ints, as long as a list may be -/
namespace L2
open PySem PySem.Spec PyProof.Rows PySem.W
abbrev tupE (ns : List Int) : PyData := .tuple (ns.map .int)
theorem tupE_le : dataLe false tupE = fun p q => decide (p ≤ q) := by
  funext p q
  show (!dataLt (.tuple (q.map .int)) (.tuple (p.map .int))) = _
  rw [dataLt_tuple]
  show (!rowLt (q.map .int) (p.map .int)) = _
  rw [dataLt_ints]
  by_cases h : q < p
  · have h' : ¬ p ≤ q := fun r => List.not_lt.mpr r h
    simp [h, h']
  · have h' : p ≤ q := List.not_lt.mp h
    simp [h, h']
section
variable {X : Cx} {pins : List (Addr × Obj)} {σ : St} {H : Hp} {s : Shared}
abbrev TupV (K : PySem.W.Frag) (H : Hp) (u : Value) (ns : List Int) : Prop := ∃ t, u = .ref t ∧ SqT K H t (ns.map V.int)
theorem tupV_of : ∀ {xs : List V} {bs : List (List Int)} {us : List Value}, Paired (TupI X.K H) xs bs → Vals xs us → EachIs (TupV X.K H) us bs
  | _, _, _, .nil, .nil => .nil
  | _, _, _, .cons ⟨t, e, h⟩ p, .cons r v => by
    subst e
    cases r
    exact .cons ⟨t, rfl, h⟩ (tupV_of p v)
theorem tupV_to : ∀ {bs : List (List Int)} {us : List Value}, EachIs (TupV X.K H) us bs → Paired (TupI X.K H) (us.map bkV) bs ∧ ∀ u ∈ us, ∃ a, u = Value.ref a
  | _, _, .nil => ⟨.nil, fun u hu => absurd hu (by simp)⟩
  | _, _, .cons ⟨t, e, h⟩ p => by
    subst e
    obtain ⟨h1, h2⟩ := tupV_to p
    refine ⟨.cons ⟨t, rfl, h⟩ h1, fun u hu => ?_⟩
    rcases List.mem_cons.mp hu with e | hu
    · exact ⟨t, e⟩
    · exact h2 u hu
theorem tupV_reads (I : Inv X pins σ H s) {u : Value} {ns : List Int} (h : TupV X.K H u ns) : ∃ as, Reads s.heap u (tupE ns) as := by
  obtain ⟨t, rfl, ht⟩ := h
  obtain ⟨its, rv, hT, _⟩ := I.tuple ht
  exact ⟨_, reads_tuple_ints hT (by simpa using rv.ints)⟩
/-- sorted(xs): the items ascending as tuples are -/
def rSortTA (K : PySem.W.Frag) : List V → Hp → VK → Prop := fun vs H Q => ∃ (a : Addr) (xs : List V) (bs : List (List Int)), vs = [V.ref a] ∧ SqL K H a xs ∧ Paired (TupI K H) xs bs ∧ (∀ b ∈ bs, b ≠ []) ∧
  ∀ (ys : List V) (p : Addr), Paired (TupI K H) ys (bs.mergeSort fun p q => decide (p ≤ q)) → H p = none → Q (.ref p) (upd H p (.lst ys))
theorem cr_sortTA (hu : X.A.units + 65 < cLine) : CallR X (.builtin "sorted") (rSortTA X.K) := by
  intro pins s σ H vs us Q I r h
  obtain ⟨a, xs, bs, rfl, hs, hp, hne, q⟩ := h
  obtain ⟨its, rv, hl, hz⟩ := I.list hs
  rw [Vals.ref1 r]
  have e0 : EachIs (TupV X.K H) its bs := tupV_of hp rv
  have hlen : bs.length = xs.length := (Paired.length hp).symm
  refine sorted_data (A := X.A) (R := TupV X.K H) (enc := tupE) hl.isList e0 (e0.mono fun u ns h => tupV_reads I h) (AllAlike.of fun b b' => by simp [alike, alike_ints]) (.inl fun d hd => ?_) (by rw [hlen]; exact hz) (fun b _ => ?_) fun out ho eo => ?_
  · obtain ⟨b, hb, rfl⟩ := List.mem_map.mp hd
    match b, hne b hb with
    | x :: r, _ => exact ⟨_, _, rfl⟩
  · have : (tupE b).depth ≤ 1 := by simp [PyData.depth, depth_ints]
    omega
  · rw [tupE_le] at eo
    obtain ⟨e1, e2⟩ := tupV_to eo
    obtain ⟨ep, he'⟩ := PyProof.Rows.sortedAll_at s.heap its out.toArray
    have hz2 : (out.map bkV).length ≤ sizeLine := by
      rw [List.length_map, ho, hlen]
      exact hz
    exact ⟨.ref _, upd H (s.heap.objs.size + 1) (.lst (out.map bkV)), I.laid (t' := s.toks) (fun _ _ => PyProof.Rows.sortedAll_old) (Nat.le_succ _) ⟨hz2, out, ep, bkV_vals e2, he'⟩, rfl, q _ _ e1 (I.hok.fresh (Nat.le_succ _))⟩
end
end L2

set_option Elab.async false
set_option linter.all false
set_option maxRecDepth 100000
set_option maxHeartbeats 4000000
/-! math.factorial -/
namespace L2
open PySem PySem.Spec PyProof.Rows
section
variable {X : Cx}
abbrev facN (n : Nat) : Nat := PySem.Builtin.Math.factorialNat n
def rFac : List V → Hp → VK → Prop := fun vs H Q => ∃ n : Nat, vs = [.int n] ∧ n ≤ 20000 ∧ Q (.int (facN n : Nat)) H
theorem cr_fac : CallR X (.builtin "math.factorial") rFac := by
  intro pins s σ H vs us Q I r h
  obtain ⟨n, rfl, hn, q⟩ := h
  cases r with
  | cons r1 r2 =>
    cases r2
    obtain ⟨t, rfl⟩ := r1
    exact PySem.W.mc_factorial (by omega) (by omega) fun _ => ⟨.int _, H, I.tok _, ⟨_, rfl⟩, q⟩
end
end L2

set_option Elab.async false
set_option linter.all false
set_option maxRecDepth 100000
set_option maxHeartbeats 4000000
/-! sorted(xs), xs a list of one item at most, whatever it is -/
namespace L2
open PySem PySem.Spec PyProof.Rows PySem.W
section
variable {X : Cx}
def rSort1 (K : PySem.W.Frag) : List V → Hp → VK → Prop := fun vs H Q => ∃ (a : Addr) (xs : List V), vs = [V.ref a] ∧ SqL K H a xs ∧ xs.length ≤ 1 ∧
  ∀ p : Addr, H p = none → Q (.ref p) (upd H p (.lst xs))
theorem cr_sort1 : CallR X (.builtin "sorted") (rSort1 X.K) := by
  intro pins s σ H vs us Q I r h
  obtain ⟨a, xs, rfl, hs, h1, q⟩ := h
  obtain ⟨its, rv, hl, hz⟩ := I.list hs
  rw [Vals.ref1 r]
  have hlen : xs.length = its.length := rv.length
  refine Srt.sorted_any hl.isList (by omega) (fun h2 => by omega) fun out hp => ?_
  have e : out = its := by
    match its, hlen with
    | [], _ => exact List.Perm.eq_nil hp
    | [x], _ => exact List.perm_singleton.mp hp
    | _ :: _ :: _, hl => simp only [List.length_cons] at hl; omega
  subst e
  obtain ⟨ep, he'⟩ := PyProof.Rows.sortedAll_at s.heap out out.toArray
  exact ⟨.ref _, upd H (s.heap.objs.size + 1) (.lst xs), I.laid (t' := s.toks) (fun _ _ => PyProof.Rows.sortedAll_old) (Nat.le_succ _) ⟨hz, out, ep, rv, he'⟩, rfl, q _ (I.hok.fresh (Nat.le_succ _))⟩
end
end L2

set_option Elab.async false
set_option linter.all false
set_option maxRecDepth 100000
set_option maxHeartbeats 4000000
/-! xs.extend(t), t a tuple -/
namespace PySem
open PySem PySem.W PySem.AutoSeq1
theorem ext_tup {l b : Addr} {items items2 : Array Value} {n n2 : Nat} {dc : Option Addr} {sl : Array (Option Value)} (hs0 : ¬(!items.isEmpty && Builtin.List.listTooLong (items.size + items2.size)) = true) (hs1 : items.size ≤ sizeLine) (hs2 : items.size + items2.size ≤ sizeLine + 1) :
    Meets (Builtin.«list.extend» ⟨[.ref l, .ref b], []⟩) (fun _ R s => s.heap.get? l = some { cls := .type "list", dict := none, data := .seq items n, slots := #[] } ∧ s.heap.get? b = some { cls := .type "tuple", dict := dc, data := .seq items2 n2, slots := sl } ∧
      R (.ok (.ret Value.none)) { s with heap := s.heap.update l (Obj.mapSeq fun x => x ++ items2), toks := s.toks }) :=
  .of_wp fun prog w A R s h => by
    obtain ⟨hp, g, d, tk, os⟩ := s
    obtain ⟨hl, hb, h⟩ := h
    have f1 := idx_int
    have f2 := sub_tuple_tuple
    have f3 := sub_list_list
    have f4 := sub_tuple_list
    have f5 := sub_list_tuple
    have hz' : (items ++ items2).size ≤ sizeLine + 1 := by rw [Array.size_append]; exact hs2
    wp_walk using (wpAny_updateSeq hl rfl (hz := hs1) (_hz' := hz')), wpAny_loadPart' hl, wpAny_loadPart' hb
    exact ⟨_, rfl, h⟩
end PySem
namespace L2
open PySem PySem.Spec PyProof.Rows PySem.W
section
variable {X : Cx}
def rExtT (K : PySem.W.Frag) : V → List V → Hp → VK → Prop := fun x vs H Q => ∃ (l b : Addr) (xs zs : List V), x = .ref l ∧ vs = [.ref b] ∧ H l = some (.lst xs) ∧ SqT K H b zs ∧ xs.length + zs.length ≤ sizeLine ∧
  Q .non (upd H l (.lst (xs ++ zs)))
theorem mt_extendT : MtM X "list.extend" (rExtT X.K) := by
  intro pins s σ H x vs v us Q I rx rv h
  obtain ⟨l, b, xs, zs, rfl, rfl, hH, hB, hz, q⟩ := h
  cases rx
  obtain ⟨u, rfl, ru⟩ := rv.one
  cases ru
  obtain ⟨z, its, n, r, hl, e⟩ := I.lstM hH
  obtain ⟨its2, r2, ⟨ob, eb, hc, n2, hd⟩, hl2⟩ := I.tuple hB
  obtain ⟨cls, dc, data, sl⟩ := ob
  dsimp only at hc hd
  subst hc hd
  have h1 := r.length
  have h2 := r2.length
  have hsz : its.toArray.size + its2.toArray.size ≤ sizeLine := by rw [List.size_toArray, List.size_toArray]; omega
  have hlong : ¬ (!its.toArray.isEmpty && Builtin.List.listTooLong (its.toArray.size + its2.toArray.size)) = true := by
    rw [notLongL hsz, Bool.and_false]
    exact Bool.false_ne_true
  refine call_meets F.slot_list_extend ⟨_, e, rfl⟩ F.entry_list_extend (F.args_list_extend_2 _ _) (PySem.ext_tup hlong (by rw [List.size_toArray]; omega) (by omega)) ⟨e, eb, ?_⟩
  refine ⟨.non, _, I.lset (its' := its ++ its2) hH e (by simp) (r.append r2) ?_, rfl, q⟩
  rw [List.length_append]
  omega
end
end L2

set_option Elab.async false
set_option linter.all false
set_option maxRecDepth 100000
set_option maxHeartbeats 4000000
/-! set(xs), xs a tuple of ints, as a value -/
namespace L2
open PySem PySem.Spec PyProof.Rows
section
variable {P : Program} {w : World} {A : Around} {E : Value → Shared → Prop}
theorem sub_tup_set : isSubtype (.type "tuple") (.type "set") = pure false := by rw [isSubtype_type]; kernel_rfl
theorem sub_tup_frz : isSubtype (.type "tuple") (.type "frozenset") = pure false := by rw [isSubtype_type]; kernel_rfl
theorem init_overT {z : Shared} {D l : Addr} {items : Array Value} {ns : List Int} {R : Result → Shared → Prop} (hh : A.handled = none) (hD : z.heap.get? D = some (eS w)) (hl : z.heap.IsTuple l items) (hit : IntsAre items.toList ns) (hb : ns.length + 1 < scanBound) (hne : l ≠ D)
    (q : ∀ (h' : Heap) (tk c : Nat), SetR w h' D (fun j => decide (j ∈ ns)) c → c ≤ ns.length → (∀ b o, b ≠ D → z.heap.get? b = some o → h'.get? b = some o) → R (.ok (.ret .none)) { z with heap := h', toks := tk }) :
    codeAny (model P w) A (.call (.builtin "set.__init__") ⟨[.ref D, .ref l], []⟩) R z := by
  have hn : items.size = ns.length := by
    have e := IntsAre.length hit
    rw [Array.length_toList] at e
    exact e
  have hT : Shared.TypeIs z (.ref D) "set" := ⟨_, hD, rfl⟩
  have lD : D < z.heap.objs.size := Heap.lt_size hD
  obtain ⟨⟨oc, od, oa, os⟩, hol, hcl, nl, hdl⟩ := id hl
  have ll : l < z.heap.objs.size := Heap.lt_size hol
  dsimp only at hcl hdl
  subst hcl hdl
  have no1 := sub_tup_set
  have no2 := sub_tup_frz
  have no3 : (Value.type "tuple" == Value.type "dict") = false := by decide
  refine codeAny_call_builtin F.called_set.init.plain F.entry_set_init (check_set_init_1 hT ?_)
  unfold Builtin.«set.__init__» noKeywords Builtin.Frozenset.updateFrom
  generalize hPI : pyIter = PI
  wp_walk
  subst hPI
  refine wpAny_pyIter_tuple hl ?_
  refine wpAny_bind (wpAny_runValue ?_)
  have free3 : A.in1.in1.handled = none := by simp [hh]
  have apart : l ≠ z.heap.objs.size := Nat.ne_of_lt ll
  have offS : D ∉ [z.heap.objs.size, l] := fun m => by
    rcases List.mem_cons.mp m with y | y
    · exact absurd y (Nat.ne_of_lt lD)
    · exact hne (List.mem_singleton.mp y).symm
  have each : ∀ (i : Nat) (v : Value), items[i]? = some v → ∃ k t, ns[i]? = some k ∧ v = .int k t := fun i v e => by
    have hi : i < ns.length := hn ▸ (Array.getElem?_eq_some_iff.mp e).1
    obtain ⟨t, e2⟩ := IntsAre.int_at hit i v (by rw [Array.getElem?_toList]; exact e)
    exact ⟨ns[i], t, List.getElem?_eq_getElem hi, by rw [e2, List.getD_eq_getElem?_getD, List.getElem?_eq_getElem hi]; rfl⟩
  refine set_update_ints ((Walks.tuple free3 _ l apart items).toS) D offS ns hn hb each (items.size - 0) 0 _ (by omega) (Nat.zero_le _) ?_ ⟨0, Nat.le_refl 0, ?_⟩ ?_
  · exact ⟨⟨_, Heap.get?_push_size _ rfl, rfl, rfl⟩, hl.push _⟩
  · exact setR_new_at (Heap.get?_push_of_some _ hD)
  rintro ⟨h', gens', drawn', tk', os'⟩ c moved hc new
  obtain rfl : gens' = z.gens := moved.gens
  obtain rfl : drawn' = z.drawn := moved.drawn
  obtain rfl : os' = z.os := moved.os
  show wpAny _ _ _ _ _ _
  refine wpAny_pure ?_
  show wpAny _ _ (ret Value.none) _ _ _
  refine wpAny_pure (q h' tk' c new (by omega) fun b o hbD e => ?_)
  have lb : b < z.heap.objs.size := Heap.lt_size e
  refine moved.heap b o (fun m => ?_) (Heap.get?_push_of_some _ e)
  rcases List.mem_cons.mp m with y | y
  · exact hbD y
  · exact absurd (List.mem_singleton.mp y) (Nat.ne_of_lt lb)
theorem set_overT {z : Shared} {l : Addr} {items : Array Value} {ns : List Int} {Q : Value → Shared → Prop} (hh : A.handled = none) (hl : z.heap.IsTuple l items) (hit : IntsAre items.toList ns) (hb : ns.length + 1 < scanBound)
    (q : ∀ (h' : Heap) (tk c : Nat), SetR w h' z.heap.objs.size (fun j => decide (j ∈ ns)) c → c ≤ ns.length → (∀ b o, z.heap.get? b = some o → h'.get? b = some o) → Q (.ref z.heap.objs.size) { z with heap := h', toks := tk }) :
    wpAny (model P w) A (call (.type "set") [.ref l]) Q E z := by
  obtain ⟨c0, t0, mro0⟩ := F.called_set.mro
  have m1 := F.called_set.made
  have m2 := F.called_set.sub
  have m3 := F.called_set.notType
  have m4 := F.called_set.canCreate
  have m5 := F.typeCall_set_1 (.ref l)
  have ll : l < z.heap.objs.size := by
    obtain ⟨o, ho, _⟩ := id hl
    exact Heap.lt_size ho
  refine wpAny_call (codeAny_of_tree ?_)
  show wpAny _ _ (callAny (.type "set") _) _ _ _
  refine wpAny_pure ⟨Code.quiet_builtin _ (by decide +kernel), codeAny_builtin F.entry_type_call ?_⟩
  rw [Around.under_plain (weight_type_call_type "set" [.ref l] []) rfl]
  repeat any_goals first | assumption | wp_step
  have new1 : (z.heap.push (eS w)).get? z.heap.objs.size = some (eS w) := Heap.get?_push_size _ rfl
  refine codeAny_mono (code_set_led1 (.ref l) (E := E) (Q₁ := fun v y => v = .ref z.heap.objs.size ∧ y = { z with heap := z.heap.push (eS w) }) ⟨rfl, rfl⟩) fun r y hr => ?_
  cases r with
  | error e => exact hr
  | ok fl =>
    cases fl with
    | ret v =>
      obtain ⟨rfl, rfl⟩ := hr
      have hT : Shared.TypeIs { z with heap := z.heap.push (eS w) } (.ref z.heap.objs.size) "set" := ⟨_, new1, rfl⟩
      have i1 := F.called_set.init.lookup
      have i2 := F.called_set.init.bind (.ref z.heap.objs.size)
      repeat any_goals first | assumption | wp_step
      refine init_overT (A := A.in1) (z := { z with heap := z.heap.push (eS w) }) (D := z.heap.objs.size) (by simp [hh]) new1 (hl.push _) hit hb (Nat.ne_of_lt ll) fun h' tk c S hc k => ?_
      show wpAny _ _ (pure (some Value.none)) _ _ _
      repeat any_goals first | assumption | wp_step
      exact q h' tk c S hc fun b o e => k b o (Nat.ne_of_lt (Heap.lt_size e)) (Heap.get?_push_of_some _ e)
    | _ => exact hr.elim
end
section
variable {X : Cx}
/-- set(xs) -/
def rSetTI (K : PySem.W.Frag) (w : World) : List V → Hp → VK → Prop := fun xs H Q => ∃ (l : Addr) (ns : List Int), xs = [V.ref l] ∧ SqT K H l (ns.map V.int) ∧ ns.length ≤ 1000 ∧ ∀ p n, n ≤ ns.length → H p = none → Q (.ref p) (upd H p (SetO w p (fun j => decide (j ∈ ns)) n))
theorem cr_setTI (hc : X.calm = true) : CallR X (.type "set") (rSetTI X.K X.w) := by
  intro pins s σ H xs us Q I r h
  obtain ⟨l, ns, rfl, hl, h1, q⟩ := h
  obtain ⟨its, rv, pl, _⟩ := I.tuple hl
  rw [Vals.ref1 r]
  refine set_overT (I.ok.hd hc) pl (ns := ns) (by simpa using rv.ints) (by unfold scanBound; omega) fun h' tk c R hc k => ?_
  exact ⟨.ref _, upd H s.heap.objs.size (SetO X.w s.heap.objs.size (fun j => decide (j ∈ ns)) c), I.laid (t' := tk) k (Nat.le_refl _) (setO_new R), rfl, q _ c hc (I.hok.fresh (Nat.le_refl _))⟩
end
end L2

set_option Elab.async false
set_option linter.all false
set_option maxRecDepth 100000
set_option maxHeartbeats 4000000
/-! t > u, both tuples of ints -/
namespace L2
open PySem PySem.Spec PyProof.Rows
abbrev gtB (ns ms : List Int) : Bool := Ob.lexAt (fun j => decide (ns.getD j 0 = ms.getD j 0)) (fun j => decide (ms.getD j 0 < ns.getD j 0)) (decide (ms.length < ns.length)) 0 (min ns.length ms.length)
def rGtT (K : PySem.W.Frag) : R2 := fun x y H Q => ∃ (t1 t2 : Addr) (ns ms : List Int), (x = .ref t1 ∧ y = .ref t2) ∧ (SqT K H t1 (ns.map V.int) ∧ SqT K H t2 (ms.map V.int)) ∧ Q (.bl (gtB ns ms)) H
theorem op_gtT {X : Cx} (few : X.A.units < cLine) : OpR X (compareOp .Gt) (rGtT X.K) := by
  rintro pins s σ H x y v u Q I rx ry ⟨t1, t2, ns, ms, ⟨rfl, rfl⟩, ⟨h1, h2⟩, q⟩
  cases rx; cases ry
  obtain ⟨us, va, pa, _⟩ := I.tuple h1
  obtain ⟨ws, vb, pb, _⟩ := I.tuple h2
  have item : ∀ {zs : List Value} {ks : List Int}, IntsAre zs ks → ∀ j (h : j < zs.toArray.size), ∃ t, zs.toArray[j] = .int (ks.getD j 0) t := fun ii j h =>
    PyProof.Rows.IntsAre.int_at ii _ _ (by simp at h; simp [h])
  have size : ∀ {zs : List Value} {ks : List Int}, IntsAre zs ks → zs.toArray.size = ks.length := fun ii => by rw [List.size_toArray]; exact ii.length
  have beq : ∀ a b : Int, decide (a = b) = (a == b) := fun a b => by
    by_cases c : a = b
    · subst c; simp
    · rw [decide_eq_false c]; exact (beq_eq_false_iff_ne.mpr c).symm
  have main := Ob.RcOp.tuples_gt (A := X.A) (s := s) (e := fun j => decide (ns.getD j 0 = ms.getD j 0)) (r := fun j => decide (ms.getD j 0 < ns.getD j 0)) pa pb few
    (fun j i1 i2 => by
      obtain ⟨k1, g1⟩ := item va.ints j i1
      obtain ⟨k2, g2⟩ := item vb.ints j i2
      rw [g1, g2, beq]
      exact SeqAt.EqAt.int_int _ _ _ _)
    (fun j i1 i2 _ => by
      obtain ⟨k1, g1⟩ := item va.ints j i1
      obtain ⟨k2, g2⟩ := item vb.ints j i2
      rw [g1, g2]
      exact Ob.RcOp.gt_int _ _ _ _)
  rw [size va.ints, size vb.ints] at main
  exact main X.prog X.w X.xe (EP X pins σ Q) ⟨.bl _, H, I, rfl, q⟩
end L2

set_option Elab.async false
set_option linter.all false
set_option maxRecDepth 100000
set_option maxHeartbeats 4000000
/-! sorted(xs), xs a list of tuples of ints, the first of which has no item -/
namespace PySem.W
open PySem PySem.Calls PyProof.Rows PySem.SeqAt
section
variable {prog : Program} {w : World} {A : Around} {E : Value → Shared → Prop} {s : Shared}
theorem call_tuple_ltZ {Q : Value → Shared → Prop} {l b : Addr} {items items2 : Array Value} {e r : Nat → Bool} (hl : s.heap.IsTuple l items) (hb : s.heap.IsTuple b items2)
    (he : ∀ j (h1 : j < items.size) (h2 : j < items2.size), EqAt A.in1 s items[j] items2[j] (e j)) (hr : ∀ j (h1 : j < items.size) (h2 : j < items2.size), e j = false → RcLt A.in1 s items[j] items2[j] (r j))
    (h : Q (.bool (firstLt e r (decide (items.size < items2.size)) (List.range (min items.size items2.size)))) s) : wpAny (model prog w) A (call (.builtin "tuple.__lt__") [.ref l, .ref b]) Q E s := by
  obtain ⟨⟨cls, dd, data, sl⟩, ho, hc, n, hd⟩ := id hl
  obtain ⟨⟨cls2, dd2, data2, sl2⟩, ho2, hc2, n2, hd2⟩ := id hb
  simp only at hc hd hc2 hd2
  subst hc hd hc2 hd2
  exact call_meets F.slot_tuple_lt ⟨_, ho, rfl⟩ F.entry_tuple_lt (F.args_tuple_lt_2 _ _) (tuple_ltAt l b items items2 n n2 dd dd2 sl sl2 e r) ⟨ho, ho2, he, hr, h⟩
theorem oneLt_tupZ {xs ys : List PyData} {a b : Value} {as bs : List Addr} {Q : Bool → Shared → Prop} (ra : Reads s.heap a (.tuple xs) as) (rb : Reads s.heap b (.tuple ys) bs) (hal : alikeAll xs ys = true)
    (hu : A.units + min (PyData.tuple xs).depth (PyData.tuple ys).depth < cLine) (hq : Q (dataLt (.tuple xs) (.tuple ys)) s) : wpAny (model prog w) A (oneLt' true a b) Q E s := by
  cases ra with
  | @tuple l o vs n _ as₁ h1 h2 h3 h4 =>
    cases rb with
    | @tuple l' o' vs' n' _ bs₁ k1 k2 k3 k4 =>
      have n1 : vs.size = xs.length := by simpa using ReadsAll.length _ _ _ h4
      have n2 : vs'.size = ys.length := by simpa using ReadsAll.length _ _ _ k4
      rw [dataLt_tuple, ← firstLt_toks xs ys hal, ← n1, ← n2] at hq
      rw [oneLt'_eq]
      simp only [if_true]
      refine wpAny_bind (wpAny_cRoomFor (room_here hu) ?_)
      refine wpAny_bind (wpAny_callSpecialIfBound?_slot (T := "tuple") ⟨_, h1, h2⟩ F.slot_tuple_lt (call_tuple_ltZ (e := pairEq xs ys) (r := fun j => dataLt (xs.getD j .none) (ys.getD j .none)) ⟨_, h1, h2, _, h3⟩ ⟨_, k1, k2, _, k3⟩ (fun j j1 j2 => ?_) (fun j j1 j2 hj => ?_) ?_))
      · have := eqAt_alikeAll xs ys A.in1 s vs.toList vs'.toList _ _ h4 k4 hal (room_in hu) j (by simpa using j1) (by simpa using j2)
        simpa using this
      · have := rcLt_alikeAll xs ys A.in1 s vs.toList vs'.toList _ _ h4 k4 hal (room_in hu) j (by simpa using j1) (by simpa using j2) hj
        simpa using this
      · exact wpAny_truthy_bool hq
end
section
variable {M : Model} {A : Around} {E : Value → Shared → Prop} {s : Shared}
def TupAt (h : Heap) (v : Value) (xs : Array Value) : Prop := ∃ a o n, v = .ref a ∧ h.get? a = some o ∧ o.cls = .type "tuple" ∧ o.data = .seq xs n
theorem first_tupZ {v : Value} {xs : Array Value} {Q : Option Value → Shared → Prop} (t : TupAt s.heap v xs) (h : Q xs[0]? s) : wpAny M A (firstOfTuple' v) Q E s := by
  obtain ⟨a, o, n, rfl, ho, hc, hd⟩ := t
  rw [kas_first_eq]
  refine wpAny_bind (Looks.here (show Looks M s.heap (typeOf (.ref a)) o.cls from (Looks.ld ho).andThen .now) ?_)
  rw [hc, if_neg (by first | decide | simp)]
  exact wpAny_bind (listItems_at ho hd (wpAny_pure h))
theorem firsts_anyZ : ∀ (vs : List Value), (∀ v ∈ vs, ∃ xs, TupAt s.heap v xs) → ∃ rs : List (Option Value), ∀ {Q : List (Option Value) → Shared → Prop}, Q rs s → wpAny M A (vs.mapM firstOfTuple') Q E s
  | [], _ => ⟨[], fun h => by rw [List.mapM_nil]; exact wpAny_pure h⟩
  | v :: vs, t => by
    obtain ⟨xs, hx⟩ := t v (.head _)
    obtain ⟨rs, hr⟩ := firsts_anyZ vs fun v hv => t v (.tail _ hv)
    refine ⟨xs[0]? :: rs, fun {Q} h => ?_⟩
    rw [List.mapM_cons]
    exact wpAny_bind (first_tupZ hx (wpAny_bind (hr (Q := fun bs s' => wpAny M A (pure (xs[0]? :: bs)) Q E s') (wpAny_pure h))))
theorem kind_tupZ {v₁ : Value} {rest : List Value} {Q : SortKind → Shared → Prop} (h1 : TupAt s.heap v₁ #[]) (hT : ∀ v ∈ rest, ∃ xs, TupAt s.heap v xs) (h : Q oneType' s) : wpAny M A (keyKind' (v₁ :: rest).toArray) Q E s := by
  obtain ⟨rs, hr⟩ := firsts_anyZ (M := M) (A := A) (E := E) rest hT
  rw [keyKind'_eq, List.mapM_toArray, map_eq_pure_bind]
  refine wpAny_bind (wpAny_bind ?_)
  rw [List.mapM_cons]
  refine wpAny_bind (first_tupZ h1 (wpAny_bind (hr ?_)))
  refine wpAny_pure (wpAny_pure ?_)
  rw [if_neg (by simp), if_neg (by simp)]
  rw [oneTypeOnly'_eq, List.mapM_toArray, map_eq_pure_bind]
  have hty : ∀ v ∈ v₁ :: rest, ∀ (Q' : Value → Shared → Prop), Q' (.type "tuple") s → wpAny M A (typeOf v) Q' E s := fun v hv Q' hq => by
    have ht : ∃ xs, TupAt s.heap v xs := by
      rcases List.mem_cons.mp hv with rfl | hv
      · exact ⟨_, h1⟩
      · exact hT v hv
    obtain ⟨xs, a, o, n, rfl, ho, hc, hd⟩ := ht
    refine Looks.here (show Looks M s.heap (typeOf (.ref a)) o.cls from (Looks.ld ho).andThen .now) ?_
    rw [hc]
    exact hq
  refine wpAny_bind (wpAny_bind (wpAny_bind (kas_mapM (r := .type "tuple") _ hty (wpAny_pure ?_))))
  have hall : ((List.map (fun _ => Value.type "tuple") (v₁ :: rest)).toArray.all fun x => x == Value.type "tuple") = true := by
    simp only [List.all_toArray, List.all_map, List.all_eq_true]
    intro _ _
    rfl
  have h0 : (List.map (fun _ => Value.type "tuple") (v₁ :: rest)).toArray[0]? = some (Value.type "tuple") := by simp
  rw [h0]
  simp only [hall, if_true]
  exact wpAny_pure (wpAny_pure h)
end
section
variable {prog : Program} {w : World} {A : Around} {E : Value → Shared → Prop} {s : Shared}
theorem reads_tupZ {v : Value} {r : List PyData} {as : List Addr} (h : Reads s.heap v (.tuple r) as) : ∃ xs, TupAt s.heap v xs := by
  cases h with
  | @tuple l o vs n _ as₁ h1 h2 h3 h4 => exact ⟨_, l, o, n, rfl, h1, h2, h3⟩
theorem reads_tup0Z {v : Value} {as : List Addr} (h : Reads s.heap v (.tuple []) as) : TupAt s.heap v #[] := by
  cases h with
  | @tuple l o vs n _ as₁ h1 h2 h3 h4 =>
    have n1 : vs.size = 0 := by simpa using ReadsAll.length _ _ _ h4
    obtain rfl : vs = #[] := Array.eq_empty_of_size_eq_zero n1
    exact ⟨l, o, n, rfl, h1, h2, h3⟩
theorem SortsAt.tupZ {vs : List Value} {ds : List PyData} (e : EachIs (fun v d => ∃ as, Reads s.heap v d as) vs (.tuple [] :: ds)) (hal : AllAlike (.tuple [] :: ds)) (ht : ∀ d, d ∈ ds → ∃ r, d = .tuple r) (hu : ∀ d, d ∈ PyData.tuple [] :: ds → A.units + d.depth < cLine) :
    SortsAt prog w A s (dataKind s.heap (.tuple [] :: ds)) vs := by
  have ht2 : ∀ d, d ∈ PyData.tuple [] :: ds → ∃ r, d = .tuple r := fun d hd => by
    rcases List.mem_cons.mp hd with rfl | hd
    · exact ⟨_, rfl⟩
    · exact ht d hd
  refine ⟨fun v hv => ?_, oneType', ?_, fun h2 E Q hq => ?_⟩
  · obtain ⟨d, hd, as, r⟩ := e.left v hv
    exact ⟨_, dataKind_some hal hd r⟩
  · intro E x y a b Q ha hb hq
    obtain ⟨d, as, hd, ra, rfl⟩ := dataKind_inv ha
    obtain ⟨d', as', hd', rb, rfl⟩ := dataKind_inv hb
    have hdd := hal d hd d' hd'
    have hroom : A.units + min d.depth d'.depth < cLine := Nat.lt_of_le_of_lt (Nat.add_le_add_left (Nat.min_le_left _ _) _) (hu d hd)
    obtain ⟨r1, rfl⟩ := ht2 d hd
    obtain ⟨r2, rfl⟩ := ht2 d' hd'
    rw [keyLt'_oneType]
    exact oneLt_tupZ ra rb (by simpa [alike] using hdd) hroom hq
  · cases e with
    | @cons v₁ _ vs _ r1 r2 =>
      obtain ⟨as, r1⟩ := r1
      refine kind_tupZ (reads_tup0Z r1) (fun v hv => ?_) hq
      obtain ⟨d, hd, as, r⟩ := r2.left v hv
      obtain ⟨r', rfl⟩ := ht d hd
      exact reads_tupZ r
end
end PySem.W
namespace PySem.W
open PySem PySem.Calls PyProof.Rows PySem.SeqAt
section
variable {prog : Program} {w : World} {A : Around} {E : Value → Shared → Prop} {s : Shared} {β : Type} {R : Value → β → Prop} {enc : β → PyData} {b0 : β} {bs : List β} {vs : List Value}
theorem sorted_tupZ {l : Addr} {Q : Value → Shared → Prop} (h0 : enc b0 = .tuple []) (ht : ∀ b, b ∈ bs → ∃ r, enc b = .tuple r) (hl : s.heap.IsList l vs.toArray) (e : EachIs R vs (b0 :: bs)) (er : EachIs (fun v b => ∃ as, Reads s.heap v (enc b) as) vs (b0 :: bs)) (hal : AllAlike ((b0 :: bs).map enc)) (hL : (b0 :: bs).length ≤ sizeLine)
    (hu : ∀ b, b ∈ b0 :: bs → A.units + 2 + (enc b).depth < cLine) (h : ∀ out, out.length = (b0 :: bs).length → EachIs R out ((b0 :: bs).mergeSort (dataLe false enc)) → Q (.ref (s.heap.objs.size + 1)) { s with heap := sortedAll s.heap vs (List.toArray out) }) :
    wpAny (model prog w) A (call (.builtin "sorted") [.ref l]) Q E s := by
  have er' : EachIs (fun v b => ∃ as, Reads (sortingHeap (copyHeap s.heap vs) (s.heap.objs.size + 1) vs) v (enc b) as) vs (b0 :: bs) := er.mono fun _ _ ⟨as, r⟩ => ⟨as, PyProof.Rows.Reads.keeps (fun _ _ => sorting_copy_old) r⟩
  have em := each_map (R := fun v d => ∃ as, Reads (sortingHeap (copyHeap s.heap vs) (s.heap.objs.size + 1) vs) v d as) enc er'
  have bm := bound_map (A := A.in1.in1) (enc := enc) (bs := b0 :: bs) hu
  have hal2 := hal
  rw [List.map_cons, h0] at em bm hal2
  refine sorted_vals (κ := dataKind (sortingHeap (copyHeap s.heap vs) (s.heap.objs.size + 1) vs) ((b0 :: bs).map enc)) hl ?_ (by rw [e.length]; exact hL) (h _ (by rw [sortVals_length false rfl]; exact e.length) (sortVals_data false e er' hal))
  rw [List.map_cons, h0]
  refine SortsAt.tupZ (s := { s with heap := sortingHeap (copyHeap s.heap vs) (s.heap.objs.size + 1) vs }) em hal2 (fun d hd => ?_) bm
  obtain ⟨b, hb, rfl⟩ := List.mem_map.mp hd
  exact ht b hb
end
end PySem.W
namespace L2
open PySem PySem.Spec PyProof.Rows PySem.W
section
variable {X : Cx} {pins : List (Addr × Obj)} {σ : St} {H : Hp} {s : Shared}
/-- sorted(xs): the items ascending as tuples are -/
def rSortT0 (K : PySem.W.Frag) : List V → Hp → VK → Prop := fun vs H Q => ∃ (a : Addr) (xs : List V) (bs : List (List Int)), vs = [V.ref a] ∧ SqL K H a xs ∧ Paired (TupI K H) xs ([] :: bs) ∧
  ∀ (ys : List V) (p : Addr), Paired (TupI K H) ys (([] :: bs).mergeSort fun p q => decide (p ≤ q)) → H p = none → Q (.ref p) (upd H p (.lst ys))
theorem cr_sortT0 (hu : X.A.units + 65 < cLine) : CallR X (.builtin "sorted") (rSortT0 X.K) := by
  intro pins s σ H vs us Q I r h
  obtain ⟨a, xs, bs, rfl, hs, hp, q⟩ := h
  obtain ⟨its, rv, hl, hz⟩ := I.list hs
  rw [Vals.ref1 r]
  have e0 : EachIs (TupV X.K H) its ([] :: bs) := tupV_of hp rv
  have hlen : ([] :: bs).length = xs.length := (Paired.length hp).symm
  refine sorted_tupZ (A := X.A) (R := TupV X.K H) (enc := tupE) rfl (fun b _ => ⟨_, rfl⟩) hl.isList e0 (e0.mono fun u ns h => tupV_reads I h) (AllAlike.of fun b b' => by simp [alike, alike_ints]) (by rw [hlen]; exact hz) (fun b _ => ?_) fun out ho eo => ?_
  · have : (tupE b).depth ≤ 1 := by simp [PyData.depth, depth_ints]
    omega
  · rw [tupE_le] at eo
    obtain ⟨e1, e2⟩ := tupV_to eo
    obtain ⟨ep, he'⟩ := PyProof.Rows.sortedAll_at s.heap its out.toArray
    have hz2 : (out.map bkV).length ≤ sizeLine := by
      rw [List.length_map, ho, hlen]
      exact hz
    exact ⟨.ref _, upd H (s.heap.objs.size + 1) (.lst (out.map bkV)), I.laid (t' := s.toks) (fun _ _ => PyProof.Rows.sortedAll_old) (Nat.le_succ _) ⟨hz2, out, ep, bkV_vals e2, he'⟩, rfl, q _ _ e1 (I.hok.fresh (Nat.le_succ _))⟩
end
end L2

set_option Elab.async false
set_option linter.all false
set_option maxRecDepth 100000
set_option maxHeartbeats 2000000
namespace Tw
open PySem PySem.Spec PyProof.Rows L2
def topS (i : Nat) : Stmt := PySem.Challenge.pw_heaprows_k52_whole_closed_sets.main.body.getD i (.Pass ⟨0, 0, 0, 0⟩)
abbrev s_is_integer : Stmt := topS 14
theorem sc_is_integer : FnScope ["thing"] ["thing"] (defScope s_is_integer) := ⟨rfl, rfl, rfl, by decide +kernel, rfl, by decide +kernel, by decide +kernel⟩
abbrev s_is_integer_from : Stmt := topS 15
theorem sc_is_integer_from : FnScope ["thing", "least", "greatest"] ["thing", "least", "greatest"] (defScope s_is_integer_from) := ⟨rfl, rfl, rfl, by decide +kernel, rfl, by decide +kernel, by decide +kernel⟩
abbrev s_is_key : Stmt := topS 16
theorem sc_is_key : FnScope ["thing"] ["thing"] (defScope s_is_key) := ⟨rfl, rfl, rfl, by decide +kernel, rfl, by decide +kernel, by decide +kernel⟩
abbrev s_is_set_of_places : Stmt := topS 22
theorem sc_is_set_of_places : FnScope ["thing", "many", "item"] ["thing", "many"] (defScope s_is_set_of_places) := ⟨rfl, rfl, rfl, by decide +kernel, rfl, by decide +kernel, by decide +kernel⟩
abbrev s_check_arms : Stmt := topS 17
theorem sc_check_arms : FnScope ["arms"] ["arms"] (defScope s_check_arms) := ⟨rfl, rfl, rfl, by decide +kernel, rfl, by decide +kernel, by decide +kernel⟩
abbrev s_check_many : Stmt := topS 18
theorem sc_check_many : FnScope ["many"] ["many"] (defScope s_check_many) := ⟨rfl, rfl, rfl, by decide +kernel, rfl, by decide +kernel, by decide +kernel⟩
abbrev s_check_place : Stmt := topS 19
theorem sc_check_place : FnScope ["place", "many"] ["place", "many"] (defScope s_check_place) := ⟨rfl, rfl, rfl, by decide +kernel, rfl, by decide +kernel, by decide +kernel⟩
abbrev s_check_index : Stmt := topS 20
theorem sc_check_index : FnScope ["index", "many"] ["index", "many"] (defScope s_check_index) := ⟨rfl, rfl, rfl, by decide +kernel, rfl, by decide +kernel, by decide +kernel⟩
abbrev s_check_count : Stmt := topS 32
theorem sc_check_count : FnScope ["count", "many"] ["count", "many"] (defScope s_check_count) := ⟨rfl, rfl, rfl, by decide +kernel, rfl, by decide +kernel, by decide +kernel⟩
abbrev s_row_of : Stmt := topS 21
theorem sc_row_of : FnScope ["row", "index", "key"] ["row"] (defScope s_row_of) := ⟨rfl, rfl, rfl, by decide +kernel, rfl, by decide +kernel, by decide +kernel⟩
abbrev s_t___init__ : Stmt := inClass (topS 24) 0
theorem sc_t___init__ : FnScope ["self", "many", "arms"] ["self", "many", "arms"] (defScope s_t___init__) := ⟨rfl, rfl, rfl, by decide +kernel, rfl, by decide +kernel, by decide +kernel⟩
abbrev s_t_of : Stmt := inClass (topS 24) 1
theorem sc_t_of : FnScope ["cls", "row", "arms"] ["cls", "row", "arms"] (defScope s_t_of) := ⟨rfl, rfl, rfl, by decide +kernel, rfl, by decide +kernel, by decide +kernel⟩
abbrev s_t___len__ : Stmt := inClass (topS 24) 2
theorem sc_t___len__ : FnScope ["self"] ["self"] (defScope s_t___len__) := ⟨rfl, rfl, rfl, by decide +kernel, rfl, by decide +kernel, by decide +kernel⟩
abbrev s_t___iter__ : Stmt := inClass (topS 24) 4
theorem sc_t___iter__ : FnScope ["self"] ["self"] (defScope s_t___iter__) := ⟨rfl, rfl, rfl, by decide +kernel, rfl, by decide +kernel, by decide +kernel⟩
abbrev s_t___getitem__ : Stmt := inClass (topS 24) 5
theorem sc_t___getitem__ : FnScope ["self", "place", "first"] ["self", "place"] (defScope s_t___getitem__) := ⟨rfl, rfl, rfl, by decide +kernel, rfl, by decide +kernel, by decide +kernel⟩
abbrev s_t_parent : Stmt := inClass (topS 24) 7
theorem sc_t_parent : FnScope ["self", "place"] ["self", "place"] (defScope s_t_parent) := ⟨rfl, rfl, rfl, by decide +kernel, rfl, by decide +kernel, by decide +kernel⟩
abbrev s_all_closed : Stmt := topS 34
theorem sc_all_closed : FnScope ["tree", "found", "place", "closed"] ["tree"] (defScope s_all_closed) := ⟨rfl, rfl, rfl, by decide +kernel, rfl, by decide +kernel, by decide +kernel⟩
abbrev s_closed_sets : Stmt := topS 26
theorem sc_closed_sets : FnScope ["many", "count", "arms", "tree", "closed"] ["many", "count", "arms"] (defScope s_closed_sets) := ⟨rfl, rfl, rfl, by decide +kernel, rfl, by decide +kernel, by decide +kernel⟩
abbrev s_many_closed : Stmt := topS 27
theorem sc_many_closed : FnScope ["many", "count", "arms"] ["many", "count", "arms"] (defScope s_many_closed) := ⟨rfl, rfl, rfl, by decide +kernel, rfl, by decide +kernel, by decide +kernel⟩
abbrev s_closed_at : Stmt := topS 28
theorem sc_closed_at : FnScope ["many", "count", "index", "arms", "found"] ["many", "count", "index", "arms"] (defScope s_closed_at) := ⟨rfl, rfl, rfl, by decide +kernel, rfl, by decide +kernel, by decide +kernel⟩
abbrev s_is_closed : Stmt := topS 29
theorem sc_is_closed : FnScope ["many", "thing", "arms", "tree", "place"] ["many", "thing", "arms"] (defScope s_is_closed) := ⟨rfl, rfl, rfl, by decide +kernel, rfl, by decide +kernel, by decide +kernel⟩
abbrev s_check_closed : Stmt := topS 33
theorem sc_check_closed : FnScope ["many", "closed", "arms"] ["many", "closed", "arms"] (defScope s_check_closed) := ⟨rfl, rfl, rfl, by decide +kernel, rfl, by decide +kernel, by decide +kernel⟩
abbrev s_closed_index : Stmt := topS 30
theorem sc_closed_index : FnScope ["many", "closed", "arms"] ["many", "closed", "arms"] (defScope s_closed_index) := ⟨rfl, rfl, rfl, by decide +kernel, rfl, by decide +kernel, by decide +kernel⟩
abbrev s_row_by_order : Stmt := topS 35
theorem sc_row_by_order : FnScope ["places", "row", "key", "place"] ["places"] (defScope s_row_by_order) := ⟨rfl, rfl, rfl, by decide +kernel, rfl, by decide +kernel, by decide +kernel⟩
abbrev s_heap_with : Stmt := topS 31
theorem sc_heap_with : FnScope ["many", "closed", "arms", "others", "place"] ["many", "closed", "arms"] (defScope s_heap_with) := ⟨rfl, rfl, rfl, by decide +kernel, rfl, by decide +kernel, by decide +kernel⟩
abbrev s__law_number : Stmt := topS 37
theorem sc__law_number : FnScope ["script", "index", "cells", "cell", "low", "high", "total", "blend"] ["script", "index"] (defScope s__law_number) := ⟨rfl, rfl, rfl, by decide +kernel, rfl, by decide +kernel, by decide +kernel⟩
abbrev s__law_parts : Stmt := topS 38
theorem sc__law_parts : FnScope ["many", "found", "place", "some"] ["many"] (defScope s__law_parts) := ⟨rfl, rfl, rfl, by decide +kernel, rfl, by decide +kernel, by decide +kernel⟩
abbrev s__law_closed : Stmt := topS 39
theorem sc__law_closed : FnScope ["many", "wide", "found", "some", "place"] ["many", "wide"] (defScope s__law_closed) := ⟨rfl, rfl, rfl, by decide +kernel, rfl, by decide +kernel, by decide +kernel⟩
abbrev s__law_is_heap : Stmt := topS 40
theorem sc__law_is_heap : FnScope ["row", "some", "many", "wide", "place"] ["row", "some", "many", "wide"] (defScope s__law_is_heap) := ⟨rfl, rfl, rfl, by decide +kernel, rfl, by decide +kernel, by decide +kernel⟩
abbrev s__law_others_right : Stmt := topS 41
theorem sc__law_others_right : FnScope ["many", "wide", "every", "some", "thing", "due"] ["many", "wide", "every"] (defScope s__law_others_right) := ⟨rfl, rfl, rfl, by decide +kernel, rfl, by decide +kernel, by decide +kernel⟩
abbrev s_law : Stmt := topS 42
theorem sc_law : FnScope ["script", "seed", "many", "wide", "every", "count", "due", "found", "index", "some"] ["script"] (defScope s_law) := ⟨rfl, rfl, rfl, by decide +kernel, rfl, by decide +kernel, by decide +kernel⟩
/-- where the text's defs stand -/
structure Ad where
  f_is_integer : Addr
  d_is_integer : FuncData
  f_is_integer_from : Addr
  d_is_integer_from : FuncData
  f_is_key : Addr
  d_is_key : FuncData
  f_is_set_of_places : Addr
  d_is_set_of_places : FuncData
  f_check_arms : Addr
  d_check_arms : FuncData
  f_check_many : Addr
  d_check_many : FuncData
  f_check_place : Addr
  d_check_place : FuncData
  f_check_index : Addr
  d_check_index : FuncData
  f_check_count : Addr
  d_check_count : FuncData
  f_row_of : Addr
  d_row_of : FuncData
  f_t___init__ : Addr
  d_t___init__ : FuncData
  f_t_of : Addr
  d_t_of : FuncData
  f_t___len__ : Addr
  d_t___len__ : FuncData
  f_t___iter__ : Addr
  d_t___iter__ : FuncData
  f_t___getitem__ : Addr
  d_t___getitem__ : FuncData
  f_t_parent : Addr
  d_t_parent : FuncData
  f_all_closed : Addr
  d_all_closed : FuncData
  f_closed_sets : Addr
  d_closed_sets : FuncData
  f_many_closed : Addr
  d_many_closed : FuncData
  f_closed_at : Addr
  d_closed_at : FuncData
  f_is_closed : Addr
  d_is_closed : FuncData
  f_check_closed : Addr
  d_check_closed : FuncData
  f_closed_index : Addr
  d_closed_index : FuncData
  f_row_by_order : Addr
  d_row_by_order : FuncData
  f_heap_with : Addr
  d_heap_with : FuncData
  f__law_number : Addr
  d__law_number : FuncData
  f__law_parts : Addr
  d__law_parts : FuncData
  f__law_closed : Addr
  d__law_closed : FuncData
  f__law_is_heap : Addr
  d__law_is_heap : FuncData
  f__law_others_right : Addr
  d__law_others_right : FuncData
  f_law : Addr
  d_law : FuncData
  C : Addr
  po : Addr
/-- what the top has written -/
structure Tx (K : PySem.W.Frag) (mg : Str → Option Value) (A : Ad) : Prop where
  F_is_integer : Fun K "is_integer" "is_integer" s_is_integer A.f_is_integer A.d_is_integer
  m_is_integer : mg "is_integer" = some (.ref A.f_is_integer)
  F_is_integer_from : Fun K "is_integer_from" "is_integer_from" s_is_integer_from A.f_is_integer_from A.d_is_integer_from
  m_is_integer_from : mg "is_integer_from" = some (.ref A.f_is_integer_from)
  F_is_key : Fun K "is_key" "is_key" s_is_key A.f_is_key A.d_is_key
  m_is_key : mg "is_key" = some (.ref A.f_is_key)
  F_is_set_of_places : Fun K "is_set_of_places" "is_set_of_places" s_is_set_of_places A.f_is_set_of_places A.d_is_set_of_places
  m_is_set_of_places : mg "is_set_of_places" = some (.ref A.f_is_set_of_places)
  F_check_arms : Fun K "check_arms" "check_arms" s_check_arms A.f_check_arms A.d_check_arms
  m_check_arms : mg "check_arms" = some (.ref A.f_check_arms)
  F_check_many : Fun K "check_many" "check_many" s_check_many A.f_check_many A.d_check_many
  m_check_many : mg "check_many" = some (.ref A.f_check_many)
  F_check_place : Fun K "check_place" "check_place" s_check_place A.f_check_place A.d_check_place
  m_check_place : mg "check_place" = some (.ref A.f_check_place)
  F_check_index : Fun K "check_index" "check_index" s_check_index A.f_check_index A.d_check_index
  m_check_index : mg "check_index" = some (.ref A.f_check_index)
  F_check_count : Fun K "check_count" "check_count" s_check_count A.f_check_count A.d_check_count
  m_check_count : mg "check_count" = some (.ref A.f_check_count)
  F_row_of : Fun K "row_of" "row_of" s_row_of A.f_row_of A.d_row_of
  m_row_of : mg "row_of" = some (.ref A.f_row_of)
  F_t___init__ : FunD K "__init__" "Tree.__init__" (defArgs s_t___init__) (defBody s_t___init__) (defScope s_t___init__) [] [("arms", V.int 2)] A.f_t___init__ A.d_t___init__
  F_t_of : FunD K "of" "Tree.of" (defArgs s_t_of) (defBody s_t_of) (defScope s_t_of) [] [("arms", V.int 2)] A.f_t_of A.d_t_of
  F_t___len__ : Fun K "__len__" "Tree.__len__" s_t___len__ A.f_t___len__ A.d_t___len__
  D_t___len__ : Dn K A.C "__len__" A.f_t___len__
  F_t___iter__ : Fun K "__iter__" "Tree.__iter__" s_t___iter__ A.f_t___iter__ A.d_t___iter__
  D_t___iter__ : Dn K A.C "__iter__" A.f_t___iter__
  F_t___getitem__ : Fun K "__getitem__" "Tree.__getitem__" s_t___getitem__ A.f_t___getitem__ A.d_t___getitem__
  D_t___getitem__ : Dn K A.C "__getitem__" A.f_t___getitem__
  F_t_parent : Fun K "parent" "Tree.parent" s_t_parent A.f_t_parent A.d_t_parent
  M_t_parent : Meth K A.C "parent" A.f_t_parent
  F_all_closed : Fun K "all_closed" "all_closed" s_all_closed A.f_all_closed A.d_all_closed
  m_all_closed : mg "all_closed" = some (.ref A.f_all_closed)
  F_closed_sets : FunD K "closed_sets" "closed_sets" (defArgs s_closed_sets) (defBody s_closed_sets) (defScope s_closed_sets) [] [("arms", V.int 2)] A.f_closed_sets A.d_closed_sets
  m_closed_sets : mg "closed_sets" = some (.ref A.f_closed_sets)
  F_many_closed : FunD K "many_closed" "many_closed" (defArgs s_many_closed) (defBody s_many_closed) (defScope s_many_closed) [] [("arms", V.int 2)] A.f_many_closed A.d_many_closed
  m_many_closed : mg "many_closed" = some (.ref A.f_many_closed)
  F_closed_at : FunD K "closed_at" "closed_at" (defArgs s_closed_at) (defBody s_closed_at) (defScope s_closed_at) [] [("arms", V.int 2)] A.f_closed_at A.d_closed_at
  m_closed_at : mg "closed_at" = some (.ref A.f_closed_at)
  F_is_closed : FunD K "is_closed" "is_closed" (defArgs s_is_closed) (defBody s_is_closed) (defScope s_is_closed) [] [("arms", V.int 2)] A.f_is_closed A.d_is_closed
  m_is_closed : mg "is_closed" = some (.ref A.f_is_closed)
  F_check_closed : Fun K "check_closed" "check_closed" s_check_closed A.f_check_closed A.d_check_closed
  m_check_closed : mg "check_closed" = some (.ref A.f_check_closed)
  F_closed_index : FunD K "closed_index" "closed_index" (defArgs s_closed_index) (defBody s_closed_index) (defScope s_closed_index) [] [("arms", V.int 2)] A.f_closed_index A.d_closed_index
  m_closed_index : mg "closed_index" = some (.ref A.f_closed_index)
  F_row_by_order : Fun K "row_by_order" "row_by_order" s_row_by_order A.f_row_by_order A.d_row_by_order
  m_row_by_order : mg "row_by_order" = some (.ref A.f_row_by_order)
  F_heap_with : FunD K "heap_with" "heap_with" (defArgs s_heap_with) (defBody s_heap_with) (defScope s_heap_with) [] [("arms", V.int 2)] A.f_heap_with A.d_heap_with
  m_heap_with : mg "heap_with" = some (.ref A.f_heap_with)
  F__law_number : Fun K "_law_number" "_law_number" s__law_number A.f__law_number A.d__law_number
  m__law_number : mg "_law_number" = some (.ref A.f__law_number)
  F__law_parts : Fun K "_law_parts" "_law_parts" s__law_parts A.f__law_parts A.d__law_parts
  m__law_parts : mg "_law_parts" = some (.ref A.f__law_parts)
  F__law_closed : Fun K "_law_closed" "_law_closed" s__law_closed A.f__law_closed A.d__law_closed
  m__law_closed : mg "_law_closed" = some (.ref A.f__law_closed)
  F__law_is_heap : Fun K "_law_is_heap" "_law_is_heap" s__law_is_heap A.f__law_is_heap A.d__law_is_heap
  m__law_is_heap : mg "_law_is_heap" = some (.ref A.f__law_is_heap)
  F__law_others_right : Fun K "_law_others_right" "_law_others_right" s__law_others_right A.f__law_others_right A.d__law_others_right
  m__law_others_right : mg "_law_others_right" = some (.ref A.f__law_others_right)
  F_law : Fun K "law" "law" s_law A.f_law A.d_law
  m_law : mg "law" = some (.ref A.f_law)
  c_MOST_ARMS : mg "MOST_ARMS" = some (.int 4 0) ∨ ∃ t, mg "MOST_ARMS" = some (.int 4 t)
  c_MOST_PLACES : mg "MOST_PLACES" = some (.int 12 0) ∨ ∃ t, mg "MOST_PLACES" = some (.int 12 t)
  c_GREATEST_KEY : mg "GREATEST_KEY" = some (.int 1000000000 0) ∨ ∃ t, mg "GREATEST_KEY" = some (.int 1000000000 t)
  g_isinstance : mg "isinstance" = none
  g_int : mg "int" = none
  g_bool : mg "bool" = none
  g_len : mg "len" = none
  g_tuple : mg "tuple" = none
  g_list : mg "list" = none
  g_range : mg "range" = none
  g_enumerate : mg "enumerate" = none
  g_iter : mg "iter" = none
  g_sum : mg "sum" = none
  g_all : mg "all" = none
  g_any : mg "any" = none
  g_sorted : mg "sorted" = none
  g_set : mg "set" = none
  cT : Cls K A.C
  nMany : NoAttr K A.C "many"
  nArms : NoAttr K A.C "arms"
  nPl : NoAttr K A.C "_places"
  mC : mg "Tree" = some (.ref A.C)
  mkC : Mk K A.C A.f_t___init__
  cr : ClX.CRead K A.C (.type "type")
  cof : ClX.CMet K A.C (.type "type") "of" A.po A.f_t_of
section
variable {P : Program} {w : World} {K : PySem.W.Frag} {mg : Str → Option Value} {base : Heap} {A : Ad}
theorem cst {x : Str} {n : Int} (h : mg x = some (.int n 0) ∨ ∃ t, mg x = some (.int n t)) : ∃ t, mg x = some (.int n t) := h.elim (fun e => ⟨0, e⟩) id

/-- True just for ints -/
def spIs (K : PySem.W.Frag) : Sp := fun vs H Q _ => ∃ x : V, vs = [x] ∧
  ((∃ i, x = .int i ∧ Q (.bl true) H) ∨ (∃ n b1 b2, TyX K H x (.type n) ∧ kitB n "int" = some b1 ∧ kitB n "bool" = some b2 ∧ (b1 && !b2) = false ∧ Q (.bl false) H))
theorem ok_is (T : Tx K mg A) : FnOk P w K mg base CX0 1 A.f_is_integer A.d_is_integer ["thing"] (spIs K) := by
  refine T.F_is_integer.ok sc_is_integer (fun vs H Q E h => ?_) (fun cdv B outer s H vs Q E hr h => ?_)
  · obtain ⟨x, rfl, _⟩ := h
    rfl
  · obtain ⟨x, rfl, h⟩ := h
    refine ⟨_, pss_one (ps_ret (pe_and (pe_callB call_isi (by rfl) T.g_isinstance (by decide +kernel) (pa_cons (pv 0) (pa_cons (pe_bltn (v := .ty "int") (by rfl) T.g_int (by decide +kernel) rfl) pa_nil)))
      (pe_one (pe_not (pe_callB call_isi (by rfl) T.g_isinstance (by decide +kernel) (pa_cons (pv 0) (pa_cons (pe_bltn (v := .ty "bool") (by rfl) T.g_bool (by decide +kernel) rfl) pa_nil))))))), ?_⟩
    rcases h with ⟨i, rfl, q⟩ | ⟨n, b1, b2, ty, k1, k2, hb, q⟩
    · refine ⟨_, rfl, _, _, .type "int", .type "int", true, rfl, .ty "int", .base (.int i), kit_ty (by decide +kernel), true, rfl, iteT ?_⟩
      exact ⟨_, rfl, _, _, .type "int", .type "bool", false, rfl, .ty "bool", .base (.int i), kit_ty (by decide +kernel), false, rfl, q⟩
    · refine ⟨_, rfl, _, _, .type n, .type "int", b1, rfl, .ty "int", ty, kit_ty k1, b1, rfl, ?_⟩
      cases b1 with
      | false => exact iteF q
      | true =>
        cases b2 with
        | false => cases hb
        | true => exact iteT ⟨_, rfl, _, _, .type n, .type "bool", true, rfl, .ty "bool", ty, kit_ty k2, true, rfl, q⟩
theorem b_is (T : Tx K mg A) : L2.Binds K A.d_is_integer ["thing"] [] := T.F_is_integer.binds fun _ _ _ _ _ _ us hl => match us, hl with | [_], _ => rfl
/-- True just for ints within; other things by their class -/
def spII (K : PySem.W.Frag) : Sp := fun vs H Q _ => ∃ (x : V) (a b : Int), vs = [x, .int a, .int b] ∧
  ((∃ i, x = .int i ∧ Q (.bl (decide (a ≤ i ∧ i ≤ b))) H) ∨ (∃ n b1 b2, TyX K H x (.type n) ∧ kitB n "int" = some b1 ∧ kitB n "bool" = some b2 ∧ (b1 && !b2) = false ∧ Q (.bl false) H))
theorem ok_ii (T : Tx K mg A) : FnOk P w K mg base CX0 2 A.f_is_integer_from A.d_is_integer_from ["thing", "least", "greatest"] (spII K) := by
  refine T.F_is_integer_from.ok sc_is_integer_from (fun vs H Q E h => ?_) (fun cdv B outer s H vs Q E hr h => ?_)
  · obtain ⟨x, a, b, rfl, _⟩ := h
    rfl
  · obtain ⟨x, a, b, rfl, h⟩ := h
    refine ⟨_, pss_one (ps_ret (pe_and (pe_call (ok_is T) hr (by rfl) T.m_is_integer T.F_is_integer.kp (b_is T) .nil pass0 (pa_cons (pv 0) pa_nil))
        (pe_one (pe_chain op_le op_le (pv 1) (pv 0) (pv 2))))), ?_⟩
    rcases h with ⟨i, rfl, q⟩ | h
    · refine ⟨_, rfl, _, rfl, .inl ⟨i, rfl, true, rfl, iteT ?_⟩⟩
      refine ⟨_, rfl, _, rfl, _, _, rfl, rfl, _, rfl, ?_⟩
      by_cases h1 : a ≤ i
      · rw [decide_eq_true h1]
        refine iteT ⟨_, rfl, _, _, rfl, rfl, ?_⟩
        have e : decide (a ≤ i ∧ i ≤ b) = decide (i ≤ b) := by simp [h1]
        rw [e] at q
        exact q
      · rw [decide_eq_false h1]
        have e : decide (a ≤ i ∧ i ≤ b) = false := by simp [h1]
        rw [e] at q
        exact iteF q
    · obtain ⟨n, b1, b2, ty, k1, k2, hb, q⟩ := h
      exact ⟨_, rfl, _, rfl, .inr ⟨n, b1, b2, ty, k1, k2, hb, false, rfl, iteF q⟩⟩
theorem b_ii (T : Tx K mg A) : L2.Binds K A.d_is_integer_from ["thing", "least", "greatest"] [] := T.F_is_integer_from.binds fun _ _ _ _ _ _ us hl => match us, hl with | [_, _, _], _ => rfl

/-- is_key of an int -/
def spKey : Sp := fun vs H Q _ => ∃ i : Int, vs = [.int i] ∧ Q (.bl (decide (-1000000000 ≤ i ∧ i ≤ 1000000000))) H
theorem ok_key (T : Tx K mg A) : FnOk P w K mg base CX0 3 A.f_is_key A.d_is_key ["thing"] spKey := by
  refine T.F_is_key.ok sc_is_key (fun vs H Q E h => ?_) (fun cdv B outer s H vs Q E hr h => ?_)
  · obtain ⟨i, rfl, _⟩ := h
    rfl
  · obtain ⟨i, rfl, q⟩ := h
    obtain ⟨t, hg⟩ := cst T.c_GREATEST_KEY
    refine ⟨_, pss_one (ps_ret (pe_call (ok_ii T) hr (by rfl) T.m_is_integer_from T.F_is_integer_from.kp (b_ii T) .nil pass0
      (pa_cons (pv 0) (pa_cons (pe_un un_neg (pe_glob (by rfl) hg (relI _ _))) (pa_cons (pe_glob (by rfl) hg (relI _ _)) pa_nil))))), ?_⟩
    exact ⟨_, rfl, _, rfl, _, _, _, rfl, .inl ⟨i, rfl, q⟩⟩
theorem b_key (T : Tx K mg A) : L2.Binds K A.d_is_key ["thing"] [] := T.F_is_key.binds fun _ _ _ _ _ _ us hl => match us, hl with | [_], _ => rfl
def spCa : Sp := fun vs H Q _ => ∃ i : Int, vs = [.int i] ∧ (1 ≤ i ∧ i ≤ 4) ∧ Q .non H
theorem ok_ca (T : Tx K mg A) : FnOk P w K mg base CX0 3 A.f_check_arms A.d_check_arms ["arms"] spCa := by
  refine T.F_check_arms.ok sc_check_arms (fun vs H Q E h => ?_) (fun cdv B outer s H vs Q E hr h => ?_)
  · obtain ⟨i, rfl, _⟩ := h
    rfl
  · obtain ⟨i, rfl, hi, q⟩ := h
    obtain ⟨t, hg⟩ := cst T.c_MOST_ARMS
    refine ⟨_, pss_one (ps_if (pt_not (pt_val (pe_call (ok_ii T) hr (by rfl) T.m_is_integer_from T.F_is_integer_from.kp (b_ii T) .nil pass0
      (pa_cons (pv 0) (pa_cons pe_int (pa_cons (pe_glob (by rfl) hg (relI _ _)) pa_nil)))))) (pss_one ps_never) pss_nil), ?_⟩
    refine ⟨_, rfl, _, _, _, rfl, .inl ⟨i, rfl, _, rfl, ?_⟩⟩
    rw [decide_eq_true hi]
    exact iteF q
theorem b_ca (T : Tx K mg A) : L2.Binds K A.d_check_arms ["arms"] [] := T.F_check_arms.binds fun _ _ _ _ _ _ us hl => match us, hl with | [_], _ => rfl
def spCm : Sp := fun vs H Q _ => ∃ i : Int, vs = [.int i] ∧ (0 ≤ i ∧ i ≤ 12) ∧ Q .non H
theorem ok_cm (T : Tx K mg A) : FnOk P w K mg base CX0 3 A.f_check_many A.d_check_many ["many"] spCm := by
  refine T.F_check_many.ok sc_check_many (fun vs H Q E h => ?_) (fun cdv B outer s H vs Q E hr h => ?_)
  · obtain ⟨i, rfl, _⟩ := h
    rfl
  · obtain ⟨i, rfl, hi, q⟩ := h
    obtain ⟨t, hg⟩ := cst T.c_MOST_PLACES
    refine ⟨_, pss_one (ps_if (pt_not (pt_val (pe_call (ok_ii T) hr (by rfl) T.m_is_integer_from T.F_is_integer_from.kp (b_ii T) .nil pass0
      (pa_cons (pv 0) (pa_cons pe_int (pa_cons (pe_glob (by rfl) hg (relI _ _)) pa_nil)))))) (pss_one ps_never) pss_nil), ?_⟩
    refine ⟨_, rfl, _, _, _, rfl, .inl ⟨i, rfl, _, rfl, ?_⟩⟩
    rw [decide_eq_true hi]
    exact iteF q
theorem b_cm (T : Tx K mg A) : L2.Binds K A.d_check_many ["many"] [] := T.F_check_many.binds fun _ _ _ _ _ _ us hl => match us, hl with | [_], _ => rfl
def spCp : Sp := fun vs H Q _ => ∃ i n : Int, vs = [.int i, .int n] ∧ (0 ≤ i ∧ i < n) ∧ Q .non H
theorem ok_cp (T : Tx K mg A) : FnOk P w K mg base CX0 3 A.f_check_place A.d_check_place ["place", "many"] spCp := by
  refine T.F_check_place.ok sc_check_place (fun vs H Q E h => ?_) (fun cdv B outer s H vs Q E hr h => ?_)
  · obtain ⟨i, n, rfl, _⟩ := h
    rfl
  · obtain ⟨i, n, rfl, hi, q⟩ := h
    refine ⟨_, pss_one (ps_if (pt_not (pt_val (pe_call (ok_ii T) hr (by rfl) T.m_is_integer_from T.F_is_integer_from.kp (b_ii T) .nil pass0
      (pa_cons (pv 0) (pa_cons pe_int (pa_cons (pe_op op_sub (pv 1) pe_int) pa_nil)))))) (pss_one ps_never) pss_nil), ?_⟩
    refine ⟨_, rfl, _, rfl, _, _, rfl, rfl, _, _, _, rfl, .inl ⟨i, rfl, _, rfl, ?_⟩⟩
    rw [decide_eq_true (show 0 ≤ i ∧ i ≤ n - 1 by omega)]
    exact iteF q
theorem b_cp (T : Tx K mg A) : L2.Binds K A.d_check_place ["place", "many"] [] := T.F_check_place.binds fun _ _ _ _ _ _ us hl => match us, hl with | [_, _], _ => rfl
/-- a list or a tuple -/
def Sq (H : Hp) (a : Addr) (xs : List V) : Prop := H a = some (.lst xs) ∨ H a = some (.tup xs)
theorem Sq.same {H H' : Hp} {a : Addr} {xs : List V} (h : Sq H a xs) (s : Same H H') : Sq H' a xs := h.elim (fun e => .inl (s _ _ e)) fun e => .inr (s _ _ e)
theorem Sq.len {K : PySem.W.Frag} {H : Hp} {a : Addr} {xs : List V} (h : Sq H a xs) : SqL K H a xs ∨ SqT K H a xs := h.elim (fun e => .inl (SqL.of e)) fun e => .inr (SqT.of e)
/-- keys go in, a tuple of them comes out -/
def spRow (K : PySem.W.Frag) : Sp := fun vs H Q _ => ∃ (a : Addr) (ns : List Int), vs = [.ref a] ∧ Sq H a (ns.map V.int) ∧ ns.length ≤ 12 ∧ (∀ n ∈ ns, -1000000000 ≤ n ∧ n ≤ 1000000000) ∧
  ∀ H' p, Same H H' → H' p = some (.tup (ns.map V.int)) → Q (.ref p) H'
theorem ok_row (T : Tx K mg A) : FnOk P w K mg base CX0 4 A.f_row_of A.d_row_of ["row"] (spRow K) := by
  refine T.F_row_of.ok sc_row_of (fun vs H Q E h => ?_) (fun cdv B outer s H vs Q E hr h => ?_)
  · obtain ⟨a, ns, rfl, _⟩ := h
    rfl
  · obtain ⟨a, ns, rfl, ha, hl, hk, q⟩ := h
    obtain ⟨t, hg⟩ := cst T.c_MOST_PLACES
    refine ⟨_, pss_cons (ps_if (PW.pt (pw_or (pt_not (pt_val (pe_callB call_isiT (by rfl) T.g_isinstance (by decide +kernel) (pa_cons (pv 0) (pa_cons (pe_tup (pa_cons (pe_bltn (v := .ty "list") (by rfl) T.g_list (by decide +kernel) rfl) (pa_cons (pe_bltn (v := .ty "tuple") (by rfl) T.g_tuple (by decide +kernel) rfl) pa_nil))) pa_nil)))))
        (pw_or1 (pt_cmpR op_gt (pe_callB call_len_seq (by rfl) T.g_len PySem.boot_len (pa_cons (pv 0) pa_nil)) (pe_glob (by rfl) hg (relI _ _)) (nomark _))))) (pss_one ps_never) pss_nil)
      (C8.pss_cut (ps_for PassesOwn.never rfl (pi_enS (by rfl) T.g_enumerate (pa_cons (pv 0) pa_nil)) (pg_tup rfl (pgs_cons (pg_name (i := 1) sc_row_of.nd rfl (Or.inl rfl)) (pgs_cons (pg_name (i := 2) sc_row_of.nd rfl (Or.inl rfl)) pgs_nil)))
        (pss_one (ps_if (pt_not (pt_val (pe_call (ok_key T) hr (by rfl) T.m_is_key T.F_is_key.kp (b_key T) .nil pass0 (pa_cons (pv 2) pa_nil)))) (pss_one ps_never) pss_nil)))
      (pss_one (ps_ret (pe_callTy call_tuple_of (by rfl) T.g_tuple (by decide +kernel) (pa_cons (pv 0) pa_nil))))), ?_⟩
    refine ⟨_, rfl, by show 2 ≤ sizeLine; decide, fun tp htp => ?_⟩
    have ha1 : Sq (upd H tp (.tup [.ty "list", .ty "tuple"])) a (ns.map V.int) := ha.same (Same.up htp)
    have isi : ∃ c b1, TyX K (upd H tp (.tup [.ty "list", .ty "tuple"])) (.ref a) (.type c) ∧ PySem.W.kitOne K (.type c) (.type "list") = some b1 ∧ (b1 = false → PySem.W.kitOne K (.type c) (.type "tuple") = some true) := by
      rcases ha1 with h | h
      · exact ⟨"list", true, .base (.lst h), kit_ty (by decide +kernel), fun z => by cases z⟩
      · exact ⟨"tuple", false, .base (.tup h), kit_ty (by decide +kernel), fun _ => kit_ty (by decide +kernel)⟩
    obtain ⟨c, b1, ty, k1, k2⟩ := isi
    refine ⟨_, tp, _, .type c, [.type "list", .type "tuple"], true, rfl, upd_same, .cons (.ty _) (.cons (.ty _) .nil), ty, kitAny_cons k1 (fun z => kitAny_cons (k2 z) (fun z => by cases z) (fun _ => rfl)) (fun _ => rfl), true, rfl, ?_⟩
    refine iteF ⟨_, rfl, a, _, rfl, ha1.len, _, _, rfl, rfl, _, rfl, ite2 (fun z => ?_) (fun _ => ?_)⟩
    · exfalso
      rw [List.length_map] at z
      have := of_decide_eq_true z
      omega
    refine ⟨fun σ H' => ∃ z y, σ = [some (.ref a), z, y] ∧ Same H H', ?_, ?_⟩
    · rcases ha with ha | ha
      · refine ⟨_, rfl, a, _, rfl, .inl ⟨SqL.of ((Same.up htp) _ _ ha), for_it (walk_enum (xs := ns.map V.int)) (fun i σ H' => ∃ z y, σ = [some (.ref a), z, y] ∧ Same H H') ⟨none, none, rfl, Same.up htp⟩ (fun i σ H' _ ⟨_, _, _, s⟩ => SqL.of (s _ _ ha)) ?_ ?_⟩⟩
        · rintro i v σ H2 H3 hi ⟨z, y, rfl, s⟩ ⟨T', x, x2, rfl, hT, rfl, e1, e2⟩
          obtain ⟨hi', rfl⟩ := ints_at e2
          cases e1
          refine ⟨_, _, rfl, SqT.of upd_same, rfl, _, _, rfl, _, _, rfl, rfl, ?_⟩
          refine ⟨_, rfl, _, rfl, _, rfl, ?_⟩
          rw [decide_eq_true (hk _ (List.getElem_mem hi'))]
          exact iteF ⟨_, _, rfl, s.trans (Same.up hT)⟩
        · rintro σ H2 ⟨z, y, rfl, s⟩
          exact ⟨_, _, rfl, s⟩
      · refine ⟨_, rfl, a, _, rfl, .inr ⟨SqT.of ((Same.up htp) _ _ ha), for_it (walk_enumT (xs := ns.map V.int)) (fun i σ H' => ∃ z y, σ = [some (.ref a), z, y] ∧ Same H H') ⟨none, none, rfl, Same.up htp⟩ (fun i σ H' _ ⟨_, _, _, s⟩ => SqT.of (s _ _ ha)) ?_ ?_⟩⟩
        · rintro i v σ H2 H3 hi ⟨z, y, rfl, s⟩ ⟨T', x, x2, rfl, hT, rfl, e1, e2⟩
          obtain ⟨hi', rfl⟩ := ints_at e2
          cases e1
          refine ⟨_, _, rfl, SqT.of upd_same, rfl, _, _, rfl, _, _, rfl, rfl, ?_⟩
          refine ⟨_, rfl, _, rfl, _, rfl, ?_⟩
          rw [decide_eq_true (hk _ (List.getElem_mem hi'))]
          exact iteF ⟨_, _, rfl, s.trans (Same.up hT)⟩
        · rintro σ H2 ⟨z, y, rfl, s⟩
          exact ⟨_, _, rfl, s⟩
    · rintro σ H2 ⟨z, y, rfl, s⟩
      rcases ha with ha | ha
      · exact ⟨_, rfl, a, _, rfl, .inl ⟨SqL.of (s _ _ ha), fun p hp => q _ _ (s.trans (Same.up hp)) upd_same⟩⟩
      · exact ⟨_, rfl, a, _, rfl, .inr ⟨SqT.of (s _ _ ha), q _ _ s (s _ _ ha)⟩⟩
theorem b_row (T : Tx K mg A) : L2.Binds K A.d_row_of ["row"] [] := T.F_row_of.binds fun _ _ _ _ _ _ us hl => match us, hl with | [_], _ => rfl

end

end Tw

set_option Elab.async false
set_option linter.all false
set_option maxRecDepth 100000
set_option maxHeartbeats 2000000
namespace Tw
open PySem PySem.Spec PyProof.Rows L2
section
variable {P : Program} {w : World} {K : PySem.W.Frag} {mg : Str → Option Value} {base : Heap} {A : Ad}
/-! the tree -/
/-- the places of a tree -/
def pl (n : Nat) : List V := (List.range n).map fun i => V.int (i : Nat)
theorem rg_pl (n : Nat) : rgV 0 (n : Int) = pl n := by
  unfold rgV pl
  rw [show ((n : Int) - 0).toNat = n by omega]
  exact congrArg (fun f => (List.range n).map f) (funext fun i => by rw [Int.zero_add])
theorem n1 : ¬ (("many" : Str) = "arms") := by decide +kernel
theorem n2 : ¬ (("many" : Str) = "_places") := by decide +kernel
theorem n3 : ¬ (("arms" : Str) = "_places") := by decide +kernel
/-- its attributes -/
def tf (n w t : Nat) : List (Str × V) := putF "_places" (.ref t) (putF "arms" (.int w) (putF "many" (.int n) []))
theorem tf_eq (n w t : Nat) : tf n w t = ([("many", V.int n), ("arms", V.int w), ("_places", V.ref t)] : List (Str × V)) := by
  unfold tf
  simp only [putF, n1, n2, n3, if_false]
theorem tf_many (n w t : Nat) : (tf n w t).lookup ("many" : Str) = some (.int n) := by
  unfold tf
  rw [lookup_putF, if_neg n2, lookup_putF, if_neg n1, lookup_putF, if_pos rfl]
theorem tf_arms (n w t : Nat) : (tf n w t).lookup ("arms" : Str) = some (.int w) := by
  unfold tf
  rw [lookup_putF, if_neg n3, lookup_putF, if_pos rfl]
theorem tf_pl (n w t : Nat) : (tf n w t).lookup ("_places" : Str) = some (.ref t) := by
  unfold tf
  rw [lookup_putF, if_pos rfl]
theorem tf_no (n w t : Nat) {m : Str} (h1 : ¬ m = "many") (h2 : ¬ m = "arms") (h3 : ¬ m = "_places") : (tf n w t).lookup m = none := by
  unfold tf
  rw [lookup_putF, if_neg h3, lookup_putF, if_neg h2, lookup_putF, if_neg h1]
  rfl
/-- a tree of n places and w arms stands at p -/
structure TreeAt (C : Addr) (H : Hp) (p n w : Nat) : Prop where
  ob : ∃ dx t, H p = some (.ins C dx (tf n w t)) ∧ H t = some (.tup (pl n))
  hn : n ≤ 12
  hw : 1 ≤ w ∧ w ≤ 4
theorem TreeAt.same {C : Addr} {H H' : Hp} {p n w : Nat} (h : TreeAt C H p n w) (s : Same H H') : TreeAt C H' p n w :=
  ⟨let ⟨dx, t, a, b⟩ := h.ob; ⟨dx, t, s _ _ a, s _ _ b⟩, h.hn, h.hw⟩

def spInit (C : Addr) : Sp := fun vs H Q _ => ∃ (p dx n w : Nat), vs = [.ref p, .int n, .int w] ∧ n ≤ 12 ∧ (1 ≤ w ∧ w ≤ 4) ∧ H p = some (.ins C dx []) ∧
  ∀ (H' : Hp), (∀ b o, H b = some o → b ≠ p → H' b = some o) → TreeAt C H' p n w → Q .non H'
theorem ok_init (T : Tx K mg A) : FnOk P w K mg base CX0 4 A.f_t___init__ A.d_t___init__ ["self", "many", "arms"] (spInit A.C) := by
  refine T.F_t___init__.ok sc_t___init__ (fun vs H Q E h => ?_) (fun cdv B outer s H vs Q E hr h => ?_)
  · obtain ⟨p, dx, n, w, rfl, _⟩ := h
    rfl
  · obtain ⟨p, dx, n, w, rfl, hn, hw, hp, q⟩ := h
    refine ⟨_, PSs.nox (pss_cons (ps_expr (pe_call (ok_ca T) hr (by rfl) T.m_check_arms T.F_check_arms.kp (b_ca T) .nil pass0 (pa_cons (pv 2) pa_nil)))
      (pss_cons (ps_expr (pe_call (ok_cm T) hr (by rfl) T.m_check_many T.F_check_many.kp (b_cm T) .nil pass0 (pa_cons (pv 1) pa_nil)))
      (pss_cons (ps_fld (pv 0) (pv 1) rfl) (pss_cons (ps_fld (pv 0) (pv 2) rfl)
      (pss_one (ps_fld (pv 0) (pe_tupRg rfl (by rfl) T.g_tuple (prg_1 (by rfl) T.g_range (pv 1))) rfl)))))), ?_⟩
    refine ⟨_, rfl, _, rfl, ⟨by omega, by omega⟩, _, rfl, _, rfl, ⟨by omega, by omega⟩, ?_⟩
    refine ⟨_, rfl, _, rfl, p, A.C, dx, _, rfl, hp, T.cT, T.nMany, (by show 0 < 1000; decide), ?_⟩
    refine ⟨_, rfl, _, rfl, p, A.C, dx, _, rfl, upd_same, T.cT, T.nArms, (by show 1 < 1000; decide), ?_⟩
    refine ⟨_, rfl, _, rfl, RgOk.of_le (by omega) (by omega) (by omega) (by omega), fun t ht => ?_⟩
    have npt : p ≠ t := fun z => by
      rw [z, upd_same] at ht
      cases ht
    refine ⟨_, rfl, p, A.C, dx, _, rfl, Eq.trans (upd_ne npt) upd_same, T.cT, T.nPl, (by simp only [putF, n1, if_false]; show 2 < 1000; decide), ?_⟩
    refine q _ (fun b o e hb => ?_) ⟨⟨dx, t, upd_same, ?_⟩, hn, hw⟩
    · have nbt : b ≠ t := ne_of_none (by rw [upd_ne hb, upd_ne hb]; exact e) ht
      rw [upd_ne hb, upd_ne nbt, upd_ne hb, upd_ne hb]
      exact e
    · rw [upd_ne npt.symm, upd_same, rg_pl]

theorem kb_init (T : Tx K mg A) : ∃ mv : List Value, KBn K A.d_t___init__ ["self", "many", "arms"] 2 ["arms"] (fun us ws => us ++ (mv ++ ws)) (fun vs zs => vs ++ zs) := by
  obtain ⟨mv, h⟩ := T.F_t___init__.kbinds0 (ps := ["self", "many", "arms"]) 2 ["arms"] [] (fun us mv ws => us ++ (mv ++ ws)) (by simp) (by simp) (fun r1 r2 r3 => r1.append (r2.append r3))
    (fun D doc pm an cdv ct us mv ws h1 h2 h3 => by
      match us, mv, ws, h1, h2, h3 with
      | [a, b], [], [c], _, _, _ => rfl)
  exact ⟨mv, h⟩
theorem bd_init (T : Tx K mg A) : ∃ ds, Vals [V.int 2] ds ∧ L2.Binds K A.d_t___init__ ["self", "many", "arms"] ds := by
  refine T.F_t___init__.binds0 2 (by simp) rfl (fun D doc pm an cdv ct us ks h1 h2 => ?_)
  match us, ks, h1, h2 with
  | [a, b], [c], _, _ => exact ⟨_, _, _, _, _, _, rfl, rfl, rfl⟩
def spOf (K : PySem.W.Frag) (C : Addr) : Sp := fun vs H Q _ => ∃ (a w : Nat) (ns : List Int), vs = [.ref C, .ref a, .int w] ∧ (1 ≤ w ∧ w ≤ 4) ∧ Sq H a (ns.map V.int) ∧ ns.length ≤ 12 ∧ (∀ n ∈ ns, -1000000000 ≤ n ∧ n ≤ 1000000000) ∧
  ∀ (H' : Hp) p, Same H H' → H p = none → TreeAt C H' p ns.length w → Q (.ref p) H'
theorem ok_of (T : Tx K mg A) : FnOk P w K mg base CX0 6 A.f_t_of A.d_t_of ["cls", "row", "arms"] (spOf K A.C) := by
  obtain ⟨mv, kb⟩ := kb_init T
  refine T.F_t_of.ok sc_t_of (fun vs H Q E h => ?_) (fun cdv B outer s H vs Q E hr h => ?_)
  · obtain ⟨a, w, ns, rfl, _⟩ := h
    rfl
  · obtain ⟨a, w, ns, rfl, hw, ha, hl, hk, q⟩ := h
    refine ⟨_, PSs.nox (pss_cons (ps_expr (pe_call (ok_ca T) (hr.mono (by decide)) (by rfl) T.m_check_arms T.F_check_arms.kp (b_ca T) .nil pass0 (pa_cons (pv 2) pa_nil)))
      (pss_one (ps_ret (pe_makeLK (i := 0) T.mkC (ok_init T) hr kb pass0 (pa_cons (pe_callB call_len_seq (by rfl) T.g_len PySem.boot_len (pa_cons (pe_call (ok_row T) (hr.mono (by decide)) (by rfl) T.m_row_of T.F_row_of.kp (b_row T) .nil pass0 (pa_cons (pv 1) pa_nil)) pa_nil)) pa_nil)
        (pk_cons (pv 2) pk_nil) rfl (Or.inl rfl))))), ?_⟩
    refine ⟨_, rfl, _, rfl, ⟨by omega, by omega⟩, rfl, _, rfl, a, ns, rfl, ha, hl, hk, fun H1 p s1 hp => ?_⟩
    refine ⟨p, _, rfl, .inr (SqT.of hp), _, rfl, rfl, rfl, fun x dx nx ndx nex => ?_⟩
    refine ⟨x, dx, ns.length, w, by rw [List.length_map]; rfl, hl, hw, upd_same, fun H2 k2 t2 => ⟨rfl, q H2 x (fun b o e => k2 b o ?_ (ne_of_none (s1 _ _ e) nx)) (s1.free nx) t2⟩⟩
    rw [upd_ne (ne_of_none (s1 _ _ e) nx), upd_ne (ne_of_none (s1 _ _ e) ndx)]
    exact s1 _ _ e


theorem b_len (T : Tx K mg A) : L2.Binds K A.d_t___len__ ["self"] [] := T.F_t___len__.binds fun _ _ _ _ _ _ us hl => match us, hl with | [_], _ => rfl
theorem b_iter (T : Tx K mg A) : L2.Binds K A.d_t___iter__ ["self"] [] := T.F_t___iter__.binds fun _ _ _ _ _ _ us hl => match us, hl with | [_], _ => rfl
theorem b_gi (T : Tx K mg A) : L2.Binds K A.d_t___getitem__ ["self", "place"] [] := T.F_t___getitem__.binds fun _ _ _ _ _ _ us hl => match us, hl with | [_, _], _ => rfl
theorem b_par (T : Tx K mg A) : L2.Binds K A.d_t_parent ["self", "place"] [] := T.F_t_parent.binds fun _ _ _ _ _ _ us hl => match us, hl with | [_, _], _ => rfl
theorem pl_len (n : Nat) : (pl n).length = n := by unfold pl; rw [List.length_map, List.length_range]
def spLen (C : Addr) : Sp := fun vs H Q _ => ∃ (p n w : Nat), vs = [.ref p] ∧ TreeAt C H p n w ∧ Q (.int n) H
theorem ok_len (T : Tx K mg A) : FnOk P w K mg base CX0 2 A.f_t___len__ A.d_t___len__ ["self"] (spLen A.C) := by
  refine T.F_t___len__.ok sc_t___len__ (fun vs H Q E h => ?_) (fun cdv B outer s H vs Q E hr h => ?_)
  · obtain ⟨p, n, w, rfl, _⟩ := h
    rfl
  · obtain ⟨p, n, w, rfl, t, q⟩ := h
    obtain ⟨dx, l, h1, h2⟩ := t.ob
    refine ⟨_, pss_one (ps_ret (pe_callB call_len_seq (by rfl) T.g_len PySem.boot_len (pa_cons (pe_fld (pv 0) rfl) pa_nil))), ?_⟩
    refine ⟨_, rfl, p, A.C, dx, _, _, rfl, h1, T.cT, T.nPl, tf_pl _ _ _, l, _, rfl, .inr (SqT.of h2), ?_⟩
    rw [pl_len]
    exact q
theorem ok_iter (T : Tx K mg A) : FnIt P w K mg base 2 A.f_t___iter__ A.d_t___iter__ ["self"] (spIter K A.C "_places") := by
  refine fnIt_of T.F_t___iter__ sc_t___iter__ (fun cdv B outer s H vs Q hr h => ?_)
  obtain ⟨a, dx, fs, t, zs, rfl, ha, hf, ht, q⟩ := h
  refine ⟨_, pss_one (ps_ret (pe_callB call_iterT (by rfl) T.g_iter (by decide +kernel) (pa_cons (pe_fld (pv 0) rfl) pa_nil))), ?_⟩
  exact ⟨_, rfl, a, A.C, dx, _, _, rfl, ha, T.cT, T.nPl, hf, t, zs, rfl, ht, q⟩
/-- the children of a place, as the program cuts them -/
def kids (n w i : Nat) : List V := cutV (pl n) (some ((i : Int) * (w : Int) + 1)) (some ((i : Int) * (w : Int) + 1 + (w : Int)))
def spGi (C : Addr) : Sp := fun vs H Q _ => ∃ (p n w i : Nat), vs = [.ref p, .int i] ∧ TreeAt C H p n w ∧ i < n ∧ ∀ H' q, Same H H' → H' q = some (.tup (kids n w i)) → Q (.ref q) H'
theorem ok_gi (T : Tx K mg A) : FnOk P w K mg base CX0 4 A.f_t___getitem__ A.d_t___getitem__ ["self", "place"] (spGi A.C) := by
  refine T.F_t___getitem__.ok sc_t___getitem__ (fun vs H Q E h => ?_) (fun cdv B outer s H vs Q E hr h => ?_)
  · obtain ⟨p, n, w, i, rfl, _⟩ := h
    rfl
  · obtain ⟨p, n, w, i, rfl, t, hi, q⟩ := h
    obtain ⟨dx, l, h1, h2⟩ := t.ob
    refine ⟨_, pss_cons (ps_expr (pe_call (ok_cp T) hr (by rfl) T.m_check_place T.F_check_place.kp (b_cp T) .nil pass0 (pa_cons (pv 1) (pa_cons (pe_fld (pv 0) rfl) pa_nil))))
      (pss_cons (ps_set (i := 2) sc_t___getitem__.nd rfl (Or.inl rfl) (pe_op op_add (pe_op op_mul (pv 1) (pe_fld (pv 0) rfl)) pe_int))
      (pss_one (ps_ret (pe_slice sl_tup (pe_fld (pv 0) rfl) (po_some (pv 2)) (po_some (pe_op op_add (pv 2) (pe_fld (pv 0) rfl))))))), ?_⟩
    refine ⟨_, rfl, _, rfl, p, A.C, dx, _, _, rfl, h1, T.cT, T.nMany, tf_many _ _ _, _, _, rfl, ⟨by omega, by omega⟩, ?_⟩
    refine ⟨_, rfl, _, rfl, p, A.C, dx, _, _, rfl, h1, T.cT, T.nArms, tf_arms _ _ _, _, _, rfl, rfl, .inl ⟨by have := t.hn; omega, by have := t.hn; omega⟩, _, _, rfl, rfl, ?_⟩
    refine ⟨_, rfl, p, A.C, dx, _, _, rfl, h1, T.cT, T.nPl, tf_pl _ _ _, ?_⟩
    refine ⟨_, rfl, _, rfl, _, rfl, _, rfl, p, A.C, dx, _, _, rfl, h1, T.cT, T.nArms, tf_arms _ _ _, _, _, rfl, rfl, _, rfl, ?_⟩
    refine ⟨l, pl n, rfl, SqT.of h2, fun z => ?_, fun r hr0 => q _ r (Same.up hr0) upd_same⟩
    have z1 := z.1
    rw [pl_len, show ((i : Int) * (w : Int) + 1) = ((i * w + 1 : Nat) : Int) by push_cast; rfl, HT.sIx_nat] at z1
    omega

end
end Tw

set_option Elab.async false
set_option linter.all false
set_option maxRecDepth 100000
set_option maxHeartbeats 2000000
namespace Tw
open PySem PySem.Spec PyProof.Rows L2
/-! closed sets, by numbers -/
def natB (p : List Nat) : List Int := p.map fun x => Int.ofNat x
def okUp (w p : Nat) (s : List Nat) : Bool := decide (p = 0) || decide ((p - 1) / w ∈ s)
def allC (w : Nat) : Nat → List (List Nat)
  | 0 => [[]]
  | p + 1 => allC w p ++ ((allC w p).filter (okUp w p)).map fun s => s ++ [p]
def closC (n w c : Nat) : List (List Nat) := (allC w n).filter fun s => decide (s.length = c)
def insC (x : List Nat) : List (List Nat) → List (List Nat)
  | [] => [x]
  | y :: l => if natB x < natB y then x :: y :: l else y :: insC x l
def tC (n w c : Nat) : List (List Nat) := (closC n w c).foldr insC []
def okC (n w c : Nat) : Bool := (tC n w c).isPerm (closC n w c) && decide ((tC n w c).Pairwise fun p q => natB p < natB q) && decide ((allC w n).length ≤ 200) && (allC w n).all (fun s => decide (s.length ≤ n)) &&
  (tC n w c).all fun s => s.all (fun p => okUp w p s && decide (p < n)) && decide (s.Pairwise (· < ·)) && decide (s.length = c)
def Dom (n w c : Nat) : Prop := (n ≤ 8 ∨ (n = 12 ∧ w = 1)) ∧ (1 ≤ w ∧ w ≤ 4) ∧ c ≤ n
theorem okC_all {n w c : Nat} (h : Dom n w c) : okC n w c = true := by
  have h1 : ∀ w, w < 5 → ∀ n, n < 9 → ∀ c, c < 9 → 1 ≤ w → c ≤ n → okC n w c = true := by decide +kernel
  have h2 : ∀ c, c < 13 → okC 12 1 c = true := by decide +kernel
  obtain ⟨a | ⟨rfl, rfl⟩, b, c2⟩ := h
  · exact h1 w (by omega) n (by omega) c (by omega) b.1 c2
  · exact h2 c (by omega)
theorem okC_parts {n w c : Nat} (h : Dom n w c) : (tC n w c).Perm (closC n w c) ∧ (tC n w c).Pairwise (fun p q => natB p < natB q) ∧ (allC w n).length ≤ 200 ∧ (∀ s ∈ allC w n, s.length ≤ n) ∧
    ∀ s ∈ tC n w c, (∀ p ∈ s, okUp w p s = true ∧ p < n) ∧ s.Pairwise (· < ·) ∧ s.length = c := by
  have := okC_all h
  unfold okC at this
  simp only [Bool.and_eq_true, decide_eq_true_eq, List.all_eq_true] at this
  obtain ⟨⟨⟨⟨h1, h2⟩, h3⟩, h4⟩, h5⟩ := this
  exact ⟨List.isPerm_iff.mp h1, h2, h3, h4, fun s hs => ⟨(h5 s hs).1.1, (h5 s hs).1.2, (h5 s hs).2⟩⟩
theorem all_len : ∀ w, 1 ≤ w → w ≤ 4 → ∀ n, n ≤ 8 ∨ (n = 12 ∧ w = 1) → ∀ p, p ≤ n → (allC w p).length ≤ 200 ∧ ∀ s ∈ allC w p, s.length ≤ p := by
  have h1 : ∀ w, w < 5 → ∀ p, p < 9 → 1 ≤ w → (decide ((allC w p).length ≤ 200) && (allC w p).all fun s => decide (s.length ≤ p)) = true := by decide +kernel
  have h2 : ∀ p, p < 13 → (decide ((allC 1 p).length ≤ 200) && (allC 1 p).all fun s => decide (s.length ≤ p)) = true := by decide +kernel
  intro w a b n hn p hp
  have : (decide ((allC w p).length ≤ 200) && (allC w p).all fun s => decide (s.length ≤ p)) = true := by
    rcases hn with h | ⟨rfl, rfl⟩
    · exact h1 w (by omega) p (by omega) a
    · exact h2 p (by omega)
  simp only [Bool.and_eq_true, decide_eq_true_eq, List.all_eq_true] at this
  exact this
theorem sort_tC {n w c : Nat} (h : Dom n w c) : ((closC n w c).map natB).mergeSort (fun p q => decide (p ≤ q)) = (tC n w c).map natB := by
  obtain ⟨h1, h2, _⟩ := okC_parts h
  have tr : ∀ (a b c : List Int), decide (a ≤ b) = true → decide (b ≤ c) = true → decide (a ≤ c) = true := fun a b c h1 h2 =>
    decide_eq_true (List.le_trans (of_decide_eq_true h1) (of_decide_eq_true h2))
  have tot : ∀ (a b : List Int), (decide (a ≤ b) || decide (b ≤ a)) = true := fun a b => by
    rcases List.le_total a b with x | x
    · rw [decide_eq_true x, Bool.true_or]
    · rw [decide_eq_true x, Bool.or_true]
  refine List.Perm.eq_of_pairwise (le := fun a b => decide (a ≤ b) = true) (fun a b _ _ h1 h2 => List.le_antisymm (of_decide_eq_true h1) (of_decide_eq_true h2)) (List.pairwise_mergeSort tr tot _) ?_ ((List.mergeSort_perm _ _).trans (h1.map natB).symm)
  rw [List.pairwise_map]
  exact h2.imp fun {a b} h => decide_eq_true (List.le_of_lt h)
/-! the law's counts -/
def aboveF : Nat → Nat → Nat → List Nat
  | 0, _, _ => []
  | f + 1, w, p => if p = 0 then [] else (p - 1) / w :: aboveF f w ((p - 1) / w)
def aboveL (w p : Nat) : List Nat := aboveF 13 w p
theorem above_eq : ∀ w, w < 5 → ∀ p, p < 13 → 1 ≤ w → aboveL w p = if p = 0 then [] else (p - 1) / w :: aboveL w ((p - 1) / w) := by decide +kernel
theorem above_len : ∀ w, w < 5 → ∀ p, p < 13 → 1 ≤ w → (aboveL w p).length ≤ 12 := by decide +kernel
def belowL (n w p : Nat) : List Nat := (List.range n).filter fun one => decide (p ∈ aboveL w one)
def cntF (n w : Nat) : Nat → Nat → List Nat → Nat → Nat
  | 0, _, _, count => if count = 0 then 1 else 0
  | f + 1, place, barred, count => if place = n ∨ n - place < count then (if count = 0 then 1 else 0) else
      (if place ∉ barred ∧ 0 < count then cntF n w f (place + 1) barred (count - 1) else 0) + cntF n w f (place + 1) (barred ++ [place] ++ belowL n w place) count
theorem cnt_ok : ∀ w, w < 5 → ∀ n, n < 9 → ∀ c, c < 9 → 1 ≤ w → c ≤ n → (tC n w c).length = cntF n w n 0 [] c := by decide +kernel
theorem first_ok : ∀ w, w < 5 → ∀ n, n < 9 → 1 ≤ w → (tC n w 0).length = 1 ∧ (tC n w n).length = 1 ∧ (0 < n → (tC n w 1).length = 1) := by decide +kernel
theorem one_arm : ∀ c, c < 13 → (tC 12 1 c).length = 1 := by decide +kernel
theorem four_arms : (List.range 6).map (fun c => (tC 5 4 c).length) = [1, 1, 4, 6, 4, 1] := by decide +kernel

section
variable {P : Program} {w : World} {K : PySem.W.Frag} {mg : Str → Option Value} {base : Heap} {A : Ad}
/-- the parent as the program says it -/
def parV (w p : Nat) : V := if p = 0 then .non else .int ((p - 1) / w : Nat)
def spPar (C : Addr) : Sp := fun vs H Q _ => ∃ (p n w i : Nat), vs = [.ref p, .int i] ∧ TreeAt C H p n w ∧ i < n ∧ Q (parV w i) H
theorem ok_par (T : Tx K mg A) : FnOk P w K mg base CX0 4 A.f_t_parent A.d_t_parent ["self", "place"] (spPar A.C) := by
  refine T.F_t_parent.ok sc_t_parent (fun vs H Q E h => ?_) (fun cdv B outer s H vs Q E hr h => ?_)
  · obtain ⟨p, n, w, i, rfl, _⟩ := h
    rfl
  · obtain ⟨p, n, w, i, rfl, t, hi, q⟩ := h
    obtain ⟨dx, l, h1, h2⟩ := t.ob
    refine ⟨_, pss_cons (ps_expr (pe_call (ok_cp T) hr (by rfl) T.m_check_place T.F_check_place.kp (b_cp T) .nil pass0 (pa_cons (pv 1) (pa_cons (pe_fld (pv 0) rfl) pa_nil))))
      (pss_cons (ps_if (pt_cmpR op_eq (pv 1) pe_int (nomark _)) (pss_one (ps_ret pe_non)) pss_nil)
      (pss_one (ps_ret (pe_op op_fdivN (pe_op op_sub (pv 1) pe_int) (pe_fld (pv 0) rfl))))), ?_⟩
    refine ⟨_, rfl, _, rfl, p, A.C, dx, _, _, rfl, h1, T.cT, T.nMany, tf_many _ _ _, _, _, rfl, ⟨by omega, by omega⟩, ?_⟩
    refine ⟨_, rfl, rfl, _, rfl, ?_⟩
    by_cases h0 : i = 0
    · rw [decide_eq_true (show V.int (i : Nat) = V.int 0 by rw [h0]; rfl)]
      refine iteT ?_
      unfold parV at q
      rw [if_pos h0] at q
      exact q
    · rw [decide_eq_false (show ¬ V.int (i : Nat) = V.int 0 by intro z; injection z with z; omega)]
      refine iteF ?_
      refine ⟨_, rfl, _, _, rfl, rfl, _, rfl, p, A.C, dx, _, _, rfl, h1, T.cT, T.nArms, tf_arms _ _ _, _, _, rfl, rfl, ⟨by have := t.hw; omega, by have := t.hw; omega⟩, ?_⟩
      unfold parV at q
      rw [if_neg h0] at q
      have e : Int.fdiv ((i : Int) - 1) (w : Int) = ((i - 1) / w : Nat) := by
        rw [Int.fdiv_eq_ediv_of_nonneg _ (by omega), show ((i : Int) - 1) = ((i - 1 : Nat) : Int) by omega]
        rfl
      show Q (V.int (Int.fdiv ((i : Int) - 1) (w : Int))) H
      rw [e]
      exact q
end

end Tw

set_option Elab.async false
set_option linter.all false
set_option maxRecDepth 100000
set_option maxHeartbeats 2000000
namespace Tw
open PySem PySem.Spec PyProof.Rows L2
section
variable {P : Program} {w : World} {K : PySem.W.Frag} {mg : Str → Option Value} {base : Heap} {A : Ad}
def byT (l : List Nat) : Nat → List Nat
  | 0 => List.replicate l.length 0
  | i + 1 => (byT l i).set (l.getD i 0) i
def byO (l : List Nat) : List Nat := byT l l.length
theorem byT_len (l : List Nat) : ∀ i, (byT l i).length = l.length
  | 0 => List.length_replicate
  | i + 1 => by
    unfold byT
    rw [List.length_set, byT_len l i]
/-! all closed sets, by numbers -/
def partsL : Nat → List (List Nat)
  | 0 => [[]]
  | p + 1 => partsL p ++ (partsL p).map fun s => s ++ [p]
def clB (w : Nat) (s : List Nat) : Bool := s.all fun p => okUp w p s
def closP (n w : Nat) : List (List Nat) := (partsL n).filter (clB w)
def evL (n w : Nat) : List (List Nat) := (closP n w).foldr insC []
def othL (n : Nat) (s : List Nat) : List Nat := (List.range n).filter fun p => decide (p ∉ s)
def hwL (n : Nat) (s : List Nat) : List Nat := byO (s ++ othL n s)
def okV (n w : Nat) : Bool := (evL n w).isPerm (closP n w) && decide ((evL n w).Pairwise fun p q => natB p < natB q) && decide (closP n w = [] :: (closP n w).drop 1) && (partsL n).all fun s => decide (s.length ≤ 7) && s.all (fun p => decide (p < n)) && decide (s.Pairwise (· < ·))
def okC2 (n w c : Nat) (ev : List (List Nat)) : Bool := decide (ev.filter (fun s => decide (s.length = c)) = tC n w c)
def okH (n w : Nat) (s : List Nat) : Bool := (hwL n s).isPerm (List.range n) && ((List.range (n - 1)).all fun i => decide (¬ (hwL n s).getD (i + 1) 0 < (hwL n s).getD (i / w) 0)) && (s.map fun p => (hwL n s).getD p 0).isPerm (List.range s.length) && decide ((s ++ othL n s).length = n) && (s ++ othL n s).all fun p => decide (p < n)
theorem okV_all : ∀ w, w < 5 → ∀ n, n < 8 → 1 ≤ w → okV n w = true := by decide +kernel
theorem parts_le : ∀ n, n < 8 → ∀ p, p < 8 → p ≤ n → ((partsL p).all fun s => decide (s.length ≤ 7)) = true ∧ (partsL p).length ≤ 128 := by decide +kernel
theorem okC2_all : ∀ w, w < 5 → ∀ n, n < 8 → ∀ c, c < 8 → 1 ≤ w → c ≤ n → okC2 n w c (evL n w) = true := by decide +kernel
theorem okH_all : ∀ w, w < 5 → ∀ n, n < 8 → 1 ≤ w → ((evL n w).all (okH n w)) = true := by decide +kernel
structure Dp7 (n w : Nat) : Prop where
  n7 : n ≤ 7
  w4 : 1 ≤ w ∧ w ≤ 4
theorem Dp7.dom {n w c : Nat} (d : Dp7 n w) (h : c ≤ n) : Dom n w c := ⟨.inl (by have := d.n7; omega), d.w4, h⟩
theorem Dp7.ev {n w : Nat} (d : Dp7 n w) : (evL n w).Perm (closP n w) ∧ (evL n w).Pairwise (fun p q => natB p < natB q) ∧ closP n w = [] :: (closP n w).drop 1 ∧ ∀ s ∈ partsL n, s.length ≤ 7 ∧ (∀ p ∈ s, p < n) ∧ s.Pairwise (· < ·) := by
  have h7 := d.n7
  have hw := d.w4
  have := okV_all w (by omega) n (by omega) hw.1
  unfold okV at this
  simp only [Bool.and_eq_true, decide_eq_true_eq, List.all_eq_true] at this
  obtain ⟨⟨⟨a, b⟩, c⟩, e⟩ := this
  exact ⟨List.isPerm_iff.mp a, b, c, fun s hs => ⟨(e s hs).1.1, (e s hs).1.2, (e s hs).2⟩⟩
theorem Dp7.eq {n w c : Nat} (d : Dp7 n w) (h : c ≤ n) : (evL n w).filter (fun s => decide (s.length = c)) = tC n w c := by
  have h7 := d.n7
  have hw := d.w4
  exact of_decide_eq_true (okC2_all w (by omega) n (by omega) c (by omega) hw.1 h)
structure HwOk (n w : Nat) (s : List Nat) : Prop where
  perm : (hwL n s).Perm (List.range n)
  up : ∀ p, 0 < p → p < n → ¬ (hwL n s).getD p 0 < (hwL n s).getD ((p - 1) / w) 0
  least : (s.map fun p => (hwL n s).getD p 0).Perm (List.range s.length)
  len : (s ++ othL n s).length = n
  lt : ∀ p ∈ s ++ othL n s, p < n
theorem Dp7.hw {n w : Nat} (d : Dp7 n w) {s : List Nat} (h : s ∈ evL n w) : HwOk n w s := by
  have h7 := d.n7
  have hw := d.w4
  have := List.all_eq_true.mp (okH_all w (by omega) n (by omega) hw.1) s h
  unfold okH at this
  simp only [Bool.and_eq_true, decide_eq_true_eq, List.all_eq_true, List.mem_range] at this
  obtain ⟨⟨⟨⟨a, b⟩, c⟩, e⟩, f⟩ := this
  refine ⟨List.isPerm_iff.mp a, fun p h0 hp => ?_, List.isPerm_iff.mp c, e, f⟩
  have := b (p - 1) (by omega)
  rw [show p - 1 + 1 = p by omega] at this
  exact this
theorem sort_gen {l m : List (List Nat)} (h1 : m.Perm l) (h2 : m.Pairwise fun p q => natB p < natB q) : (l.map natB).mergeSort (fun p q => decide (p ≤ q)) = m.map natB := by
  have tr : ∀ (a b c : List Int), decide (a ≤ b) = true → decide (b ≤ c) = true → decide (a ≤ c) = true := fun a b c h1 h2 =>
    decide_eq_true (List.le_trans (of_decide_eq_true h1) (of_decide_eq_true h2))
  have tot : ∀ (a b : List Int), (decide (a ≤ b) || decide (b ≤ a)) = true := fun a b => by
    rcases List.le_total a b with x | x
    · rw [decide_eq_true x, Bool.true_or]
    · rw [decide_eq_true x, Bool.or_true]
  refine List.Perm.eq_of_pairwise (le := fun a b => decide (a ≤ b) = true) (fun a b _ _ h1 h2 => List.le_antisymm (of_decide_eq_true h1) (of_decide_eq_true h2)) (List.pairwise_mergeSort tr tot _) ?_ ((List.mergeSort_perm _ _).trans (h1.map natB).symm)
  rw [List.pairwise_map]
  exact h2.imp fun {a b} h => decide_eq_true (List.le_of_lt h)

end
end Tw

set_option Elab.async false
set_option linter.all false
set_option maxRecDepth 100000
set_option maxHeartbeats 2000000
namespace Tw
open PySem PySem.Spec PyProof.Rows L2
section
variable {P : Program} {w : World} {K : PySem.W.Frag} {mg : Str → Option Value} {base : Heap} {A : Ad}

/-! the law's own defs -/
theorem ints_dp (K : PySem.W.Frag) (H : Hp) : ∀ ns : List Int, DpAll K H (ns.map V.int) (ns.map PyData.int)
  | [] => .nil
  | n :: ns => .cons (.int n) (ints_dp K H ns)
theorem emp_eqv : ∀ ns : List Int, PyData.eqv (.list (ns.map PyData.int)) (.list []) = decide (ns = [])
  | [] => by rfl
  | n :: ns => by rfl
theorem shaped_ints (ns : List Int) : SeqAt.shaped (.list (ns.map PyData.int)) = true := by
  have h1 : ∀ ms : List Int, PyData.canLayAll0 (ms.map PyData.int) = true := fun ms => by
    induction ms with
    | nil => rfl
    | cons m ms ih => rw [List.map_cons, PyData.canLayAll0, ih]; rfl
  have h2 : ∀ ms : List Int, PyData.depthAll (ms.map PyData.int) ≤ 1 := fun ms => by
    induction ms with
    | nil => simp [PyData.depthAll]
    | cons m ms ih =>
      simp only [List.map_cons, PyData.depthAll, PyData.depth]
      omega
  have h3 : PyData.depth (.list (ns.map PyData.int)) ≤ 64 := by
    have := h2 ns
    simp only [PyData.depth]
    omega
  unfold SeqAt.shaped
  rw [decide_eq_true h3, Bool.and_true]
  simp only [PyData.canLay0]
  exact h1 ns
theorem cut63 (xs : List V) (h : xs.length ≤ 63) : cutV xs none (some 63) = xs := by
  unfold cutV
  rw [HT.sIx_none, show (63 : Int) = ((63 : Nat) : Int) from rfl, HT.sIx_nat, List.drop_zero, Nat.min_eq_right h, Nat.sub_zero, List.take_length]
def spNum (K : PySem.W.Frag) : Sp := fun vs H Q _ => ∃ (a : Addr) (ns : List Int) (i : Nat), vs = [.ref a, .int i] ∧ SqL K H a (ns.map V.int) ∧ ns.length ≤ 63 ∧ i < 1000000 ∧ ∀ H' r, Same H H' → Q (.int r) H'
theorem ok_num (T : Tx K mg A) : FnOk P w K mg base CX0 2 A.f__law_number A.d__law_number ["script", "index"] (spNum K) := by
  refine T.F__law_number.ok sc__law_number (fun vs H Q E h => ?_) (fun cdv B outer s H vs Q E hr h => ?_)
  · obtain ⟨a, ns, i, rfl, _⟩ := h
    rfl
  · obtain ⟨a, ns, i, rfl, ha, hl, hi, q⟩ := h
    have nd := sc__law_number.nd
    have hu := hr.units
    refine ⟨_, C8.pss_cut (ps_set (i := 2) nd rfl (Or.inl rfl) (pe_ifExp (pt_cmpR (op_neD hu) (pv 0) (pe_lst pa_nil) (nomark _)) (pe_slice sl_list (pv 0) po_none (po_some pe_int)) (pe_lst (pa_cons pe_int pa_nil))))
      (pss_cons (ps_set (i := 3) nd rfl (Or.inl rfl) (pe_op op_add
        (pe_ix ix_list (pv 2) (pe_op op_mod (pe_callTy call_int1 (by rfl) T.g_int (by decide +kernel) (pa_cons (pv 1) pa_nil)) (pe_callB call_len_seq (by rfl) T.g_len PySem.boot_len (pa_cons (pv 2) pa_nil))) (fun _ _ => rfl))
        (pe_op op_mul pe_int (pe_op op_fdivN (pv 1) (pe_callB call_len_seq (by rfl) T.g_len PySem.boot_len (pa_cons (pv 2) pa_nil))))))
      (pss_cons (ps_par (i := 4) (j := 5) rfl nd rfl rfl (by decide) rfl rfl (pa_cons (pe_op op_mod (pe_callTy call_int1 (by rfl) T.g_int (by decide +kernel) (pa_cons (pv 3) pa_nil)) pe_int)
          (pa_cons (pe_op op_mod (pe_callTy call_int1 (by rfl) T.g_int (by decide +kernel) (pa_cons (pe_op op_fdivN (pv 3) pe_int) pa_nil)) pe_int) pa_nil)) rfl)
      (pss_cons (ps_set (i := 6) nd rfl (Or.inl rfl) (pe_op op_mod (pe_callTy call_int1 (by rfl) T.g_int (by decide +kernel) (pa_cons (pe_callB (cr_sum rfl) (by rfl) T.g_sum (by decide +kernel) (pa_cons (pv 2) pa_nil)) pa_nil)) pe_int))
      (pss_cons (ps_set (i := 7) nd rfl (Or.inl rfl) (pe_op op_mod (pe_callTy call_int1 (by rfl) T.g_int (by decide +kernel) (pa_cons
          (pe_op op_add (pe_op op_add (pe_op op_mul (pe_op op_add (pv 4) (pe_op op_mul pe_int (pv 1))) pe_int) (pe_op op_mul pe_int (pv 5))) (pv 6)) pa_nil)) pe_int))
      (pss_one (ps_ret (pe_op op_add (pe_op op_mul (pe_op op_mod (pe_callTy call_int1 (by rfl) T.g_int (by decide +kernel) (pa_cons
          (pe_op op_mul (pv 7) (pe_op op_add (pe_op op_add (pv 7) (pe_op op_mul pe_int (pv 1))) pe_int)) pa_nil)) pe_int) pe_int) (pv 5)))))))), ?_⟩
    refine ⟨fun σ H1 => ∃ (c : Addr) (cs : List Int), σ = [some (.ref a), some (.int i), some (.ref c), none, none, none, none, none] ∧ Same H H1 ∧ H1 c = some (.lst (cs.map V.int)) ∧ 0 < cs.length ∧ cs.length ≤ 63, ?_, ?_⟩
    · refine ⟨_, rfl, Nat.zero_le _, fun l0 hl0 => ?_⟩
      have hs0 : Same H (upd H l0 (.lst [])) := Same.up hl0
      refine ⟨.list (ns.map PyData.int), .list [], .lst (hs0.seq ha) (ints_dp _ _ _), .lst (SqL.of upd_same) .nil, ?_, rfl, _, rfl, ?_⟩
      · exact shaped_ints _
      · rw [emp_eqv]
        by_cases e : ns = []
        · rw [decide_eq_true e]
          refine iteF ⟨by show 1 ≤ sizeLine; decide, fun l1 hl1 => ⟨l1, [5], rfl, hs0.trans (Same.up hl1), upd_same, by decide, by decide⟩⟩
        · rw [decide_eq_false e]
          refine iteT ⟨_, rfl, _, rfl, a, _, rfl, hs0.seq ha, fun l1 hl1 => ⟨l1, ns, rfl, hs0.trans (Same.up hl1), ?_, ?_, hl⟩⟩
          · rw [upd_same]
            exact congrArg (fun z => some (HO.lst z)) (cut63 _ (by rw [List.length_map]; exact hl))
          · exact List.length_pos_iff.mpr e
    · rintro σ H1 ⟨c, cs, rfl, s1, hc, h0, h63⟩
      have hq := SqL.of (K := K) hc
      have hL : ((cs.map V.int).length : Int) = (cs.length : Int) := by rw [List.length_map]
      have hm0 : 0 ≤ (i : Int) % (cs.length : Int) := Int.emod_nonneg _ (by omega)
      have hm1 : (i : Int) % (cs.length : Int) < (cs.length : Int) := Int.emod_lt_of_pos _ (by omega)
      obtain ⟨j, hj⟩ : ∃ j : Nat, (i : Int) % (cs.length : Int) = (j : Int) := ⟨_, (Int.toNat_of_nonneg hm0).symm⟩
      have hjl : j < cs.length := by omega
      have hat : atI (cs.map V.int) ((i : Int) % ((cs.map V.int).length : Int)) = some (V.int cs[j]) := by
        rw [hL, hj]
        exact atI_nat (by rw [List.getElem?_map, List.getElem?_eq_getElem hjl]; rfl)
      refine ⟨_, rfl, _, rfl, .inl ⟨_, rfl, _, rfl, c, _, rfl, .inl hq, _, _, rfl, rfl, ?_, c, _, _, _, rfl, rfl, hq, hat, _, rfl, _, rfl, c, _, rfl, .inl hq, _, _, rfl, rfl, ⟨?_, ?_⟩, _, _, rfl, rfl, .inl ⟨by decide, by decide⟩, _, _, rfl, rfl, ?_⟩⟩
      · show (0 : Int) < ((cs.map V.int).length : Int)
        omega
      · omega
      · omega
      · refine ⟨_, rfl, .inl ⟨_, rfl, _, _, rfl, rfl, by show (0 : Int) < 1000003; decide, ?_⟩⟩
        refine ⟨_, rfl, _, _, rfl, rfl, ⟨by decide, by decide⟩, .inl ⟨_, rfl, _, _, rfl, rfl, by show (0 : Int) < 999983; decide, _, _, rfl, ?_⟩⟩
        refine ⟨_, rfl, c, cs, rfl, hq, .inl ⟨_, rfl, _, _, rfl, rfl, by show (0 : Int) < 65521; decide, ?_⟩⟩
        refine ⟨_, rfl, _, rfl, _, _, rfl, rfl, .inl ⟨by decide, by decide⟩, _, _, rfl, rfl, _, _, rfl, rfl, .inr ⟨by decide, by decide⟩, ?_⟩
        refine ⟨_, rfl, _, _, rfl, rfl, .inl ⟨by decide, by decide⟩, _, _, rfl, rfl, _, rfl, _, _, rfl, rfl, .inl ⟨_, rfl, _, _, rfl, rfl, by show (0 : Int) < 2147483647; decide, ?_⟩⟩
        refine ⟨_, rfl, _, rfl, _, rfl, _, _, rfl, rfl, .inl ⟨by decide, by decide⟩, _, _, rfl, rfl, _, _, rfl, rfl, _, _, rfl, rfl, .inl ⟨?_, ?_⟩, .inl ⟨_, rfl, _, _, rfl, rfl, by show (0 : Int) < 2147483629; decide, ?_⟩⟩
        · have := Int.emod_nonneg ((((cs[j] + 13 * Int.fdiv (i : Int) ((cs.map V.int).length : Int)) % 1000003 + 977 * (i : Int)) * 48271 + 31 * (Int.fdiv (cs[j] + 13 * Int.fdiv (i : Int) ((cs.map V.int).length : Int)) 1000003 % 999983)) + cs.sum % 65521) (show (2147483647 : Int) ≠ 0 by decide)
          omega
        · have := Int.emod_lt_of_pos ((((cs[j] + 13 * Int.fdiv (i : Int) ((cs.map V.int).length : Int)) % 1000003 + 977 * (i : Int)) * 48271 + 31 * (Int.fdiv (cs[j] + 13 * Int.fdiv (i : Int) ((cs.map V.int).length : Int)) 1000003 % 999983)) + cs.sum % 65521) (show (0 : Int) < 2147483647 by decide)
          omega
        · exact ⟨_, _, rfl, rfl, .inr ⟨by decide, by decide⟩, _, rfl, _, _, rfl, rfl, q _ _ s1⟩
theorem b_num (T : Tx K mg A) : L2.Binds K A.d__law_number ["script", "index"] [] := T.F__law_number.binds fun _ _ _ _ _ _ us hl => match us, hl with | [_, _], _ => rfl

theorem sorted_one {xs ys : List Int} (hp : xs.Perm ys) (h1 : xs.Pairwise (· ≤ ·)) (h2 : ys.Pairwise (· ≤ ·)) : xs = ys := List.Perm.eq_of_pairwise (fun x y _ _ h1 h2 => Int.le_antisymm h1 h2) h1 h2 hp
theorem cr_or {X : Cx} {f : Value} {r1 r2 : List V → Hp → VK → Prop} (h1 : CallR X f r1) (h2 : CallR X f r2) : CallR X f (fun vs H Q => r1 vs H Q ∨ r2 vs H Q) := by
  intro pins s σ H vs us Q I rv h
  rcases h with h | h
  · exact h1 pins s σ H vs us Q I rv h
  · exact h2 pins s σ H vs us Q I rv h
theorem sort_sq {K : PySem.W.Frag} {H : Hp} {r : Addr} {ks : List Int} {Q : VK} (h : Sq H r (ks.map V.int)) (q : ∀ (ns' : List Int) (p : Addr), ns'.Perm ks → ns'.Pairwise (· ≤ ·) → H p = none → Q (.ref p) (upd H p (.lst (ns'.map V.int)))) : rSortedI K [.ref r] H Q ∨ rSortedTu K [.ref r] H Q := by
  rcases h with h | h
  · exact .inl ⟨r, ks, rfl, SqL.of h, q⟩
  · exact .inr ⟨r, ks, rfl, SqT.of h, q⟩
theorem refl_of {d : PyData} (h : SeqAt.shaped d = true) : PyData.eqv d d = true := PySem.SeqAt.eqv_refl d (SeqAt.canLay_of_shaped h)
/-- a tuple of keys at an address -/
def RowAt (H : Hp) (v : V) (l : List Int) : Prop := ∃ t, v = .ref t ∧ H t = some (.tup (l.map V.int))
abbrev RowsAt (H : Hp) : List V → List (List Int) → Prop := Paired (RowAt H)
theorem RowsAt.same {H H' : Hp} {xs : List V} {ls : List (List Int)} (h : RowsAt H xs ls) (s : Same H H') : RowsAt H' xs ls := L2.Paired.mapP h fun _ _ ⟨t, e, z⟩ => ⟨t, e, s _ _ z⟩
theorem RowsAt.push {H : Hp} {x : V} {l : List Int} (hp : RowAt H x l) : ∀ {xs : List V} {ls : List (List Int)}, RowsAt H xs ls → RowsAt H (xs ++ [x]) (ls ++ [l])
  | _, _, .nil => .cons hp .nil
  | _, _, .cons a b => .cons a (RowsAt.push hp b)
theorem RowsAt.put {H : Hp} {D : Addr} {xs zs ys : List V} {ls : List (List Int)} (hD : H D = some (.lst zs)) (h : RowsAt H xs ls) : RowsAt (upd H D (.lst ys)) xs ls :=
  L2.Paired.mapP h fun _ _ ⟨t, e, z⟩ => ⟨t, e, by rw [upd_ne (ne_of z hD (by intro q; cases q))]; exact z⟩
theorem RowsAt.get {H : Hp} : ∀ {xs : List V} {ls : List (List Int)} {i : Nat} {x : V}, RowsAt H xs ls → xs[i]? = some x → ∃ hi : i < ls.length, RowAt H x ls[i]
  | _, _, 0, _, .cons a _, e => ⟨Nat.succ_pos _, by rw [← Option.some.inj e]; exact a⟩
  | _, _, i + 1, _, .cons _ b, e => by
    obtain ⟨hi, r⟩ := RowsAt.get b (by simpa using e)
    exact ⟨Nat.succ_lt_succ hi, r⟩
structure AccR (H1 : Hp) (D : Addr) (ls : List (List Int)) (H : Hp) : Prop where
  s : Same H1 H
  n : H1 D = Option.none
  a : ∃ xs, H D = some (.lst xs) ∧ RowsAt H xs ls
theorem AccR.start {H1 : Hp} {D : Addr} (n : H1 D = none) : AccR H1 D [] (upd H1 D (.lst [])) := ⟨Same.up n, n, [], upd_same, .nil⟩
theorem AccR.same {H1 H H' : Hp} {D : Addr} {ls : List (List Int)} (h : AccR H1 D ls H) (s : Same H H') : AccR H1 D ls H' := ⟨h.s.trans s, h.n, let ⟨xs, e, z⟩ := h.a; ⟨xs, s _ _ e, z.same s⟩⟩
theorem AccR.push {H1 H : Hp} {D : Addr} {ls : List (List Int)} {x : V} {l : List Int} (h : AccR H1 D ls H) (hp : RowAt H x l) (hl : ls.length < sizeLine) :
    ∃ acc, H D = some (.lst acc) ∧ acc.length < sizeLine ∧ AccR H1 D (ls ++ [l]) (upd H D (.lst (acc ++ [x]))) := by
  obtain ⟨xs, e, z⟩ := h.a
  refine ⟨xs, e, by rw [z.length]; exact hl, fun b o k => ?_, h.n, xs ++ [x], upd_same, (RowsAt.push hp z).put e⟩
  rw [upd_ne (ne_of_none k h.n)]
  exact h.s b o k
theorem plAt {n i : Nat} {x : V} (h : (pl n)[i]? = some x) : i < n ∧ x = V.int (i : Nat) := by
  unfold pl at h
  rw [List.getElem?_map] at h
  by_cases hi : i < n
  · rw [List.getElem?_range hi] at h
    exact ⟨hi, (Option.some.inj h).symm⟩
  · rw [List.getElem?_eq_none (by rw [List.length_range]; omega)] at h
    cases h
theorem era_map : ∀ (l : List Int) (i : Nat), (l.map V.int).eraseIdx i = (l.eraseIdx i).map V.int
  | [], _ => rfl
  | _ :: _, 0 => rfl
  | a :: l, i + 1 => by
    rw [List.map_cons, List.eraseIdx_cons_succ, List.eraseIdx_cons_succ, List.map_cons, era_map l i]
theorem RowsAt.app {H : Hp} : ∀ {xs ys : List V} {ls ms : List (List Int)}, RowsAt H xs ls → RowsAt H ys ms → RowsAt H (xs ++ ys) (ls ++ ms)
  | _, _, _, _, .nil, h => h
  | _, _, _, _, .cons a b, h => .cons a (RowsAt.app b h)
theorem map_one (l : List Int) (x : Int) : l.map V.int ++ [V.int x] = (l ++ [x]).map V.int := by rw [List.map_append]; rfl
theorem ints_tup (K : PySem.W.Frag) {H : Hp} {a : Addr} {ks : List Int} (h : H a = some (.tup (ks.map V.int))) : Dp K H (.ref a) (.tuple (ks.map PyData.int)) := .tup (SqT.of h) (ints_dp K H ks)
theorem ints_shT (ks : List Int) : SeqAt.shaped (.tuple (ks.map PyData.int)) = true := by
  have h := shaped_ints ks
  unfold SeqAt.shaped at h ⊢
  simp only [PyData.canLay0, PyData.depth] at h ⊢
  exact h
theorem ints_all : ∀ ks ms : List Int, PyData.eqvAll (ks.map PyData.int) (ms.map PyData.int) = decide (ks = ms)
  | [], [] => by simp [PyData.eqvAll]
  | [], m :: ms => by simp [PyData.eqvAll]
  | k :: ks, [] => by simp [PyData.eqvAll]
  | k :: ks, m :: ms => by
    simp only [List.map_cons, PyData.eqvAll, ints_all ks ms, PyData.eqv]
    by_cases h1 : k = m
    · by_cases h2 : ks = ms <;> simp [h1, h2]
    · simp [h1]
/-- tuples of keys as data -/
abbrev rowD (r : List Int) : PyData := .tuple (r.map .int)
theorem rowD_dp {H : Hp} {v : V} {r : List Int} (h : RowAt H v r) : Dp K H v (rowD r) := by
  obtain ⟨t, rfl, e⟩ := h
  exact ints_tup K e
theorem rowsD_dp {H : Hp} : ∀ {xs : List V} {ls : List (List Int)}, RowsAt H xs ls → DpAll K H xs (ls.map rowD)
  | _, _, .nil => .nil
  | _, _, .cons a b => .cons (rowD_dp a) (rowsD_dp b)
theorem rowD_eqv (r q : List Int) : PyData.eqv (rowD r) (rowD q) = decide (r = q) := by
  rw [← ints_all]
  simp [PyData.eqv]
theorem rowsD_lay : ∀ ls : List (List Int), PyData.canLayAll0 (ls.map rowD) = true
  | [] => rfl
  | r :: ls => by
    have h := SeqAt.canLay_of_shaped (ints_shT r)
    rw [List.map_cons, PyData.canLayAll0, rowsD_lay ls, Bool.and_true]
    exact h
theorem rowsD_deep : ∀ ls : List (List Int), PyData.depthAll (ls.map rowD) ≤ 3
  | [] => by simp [PyData.depthAll]
  | r :: ls => by
    have := rowsD_deep ls
    have hp : PyData.depth (rowD r) ≤ 3 := by simp [rowD, PyData.depth, PySem.W.depth_ints]
    simp only [List.map_cons, PyData.depthAll]
    omega
theorem rowsD_shaped (ls : List (List Int)) : SeqAt.shaped (.list (ls.map rowD)) = true := by
  have := rowsD_deep ls
  unfold SeqAt.shaped
  rw [Bool.and_eq_true]
  refine ⟨?_, decide_eq_true ?_⟩
  · simp only [PyData.canLay0]
    exact rowsD_lay ls
  · simp only [PyData.depth]
    omega
theorem rowsD_all : ∀ ls ms : List (List Int), PyData.eqvAll (ls.map rowD) (ms.map rowD) = decide (ls = ms)
  | [], [] => by simp [PyData.eqvAll]
  | [], q :: qs => by simp [PyData.eqvAll]
  | p :: ps, [] => by simp [PyData.eqvAll]
  | p :: ps, q :: qs => by
    simp only [List.map_cons, PyData.eqvAll, rowsD_all ps qs]
    rw [rowD_eqv]
    by_cases h1 : p = q
    · by_cases h2 : ps = qs <;> simp [h1, h2]
    · simp [h1]
theorem rowsL_eqv (ls ms : List (List Int)) : PyData.eqv (.list (ls.map rowD)) (.list (ms.map rowD)) = decide (ls = ms) := by
  rw [← rowsD_all]
  simp [PyData.eqv]
theorem at_last {xs : List V} (h : 0 < xs.length) : atI xs (-1) = some xs[xs.length - 1] := by
  unfold atI ixN
  rw [if_neg (by omega), if_pos (by omega), show ((-1 : Int) + (xs.length : Nat)).toNat = xs.length - 1 by omega]
  exact List.getElem?_eq_getElem (by omega)
theorem SqT.sm {K : PySem.W.Frag} {H H' : Hp} {a : Addr} {xs : List V} (s : Same H H') (h : SqT K H a xs) : SqT K H' a xs := by
  rcases h with (h | ⟨o, h⟩) | h
  · exact .inl (.inl (s _ _ h))
  · exact .inl (.inr ⟨o, s _ _ h⟩)
  · exact .inr h
theorem tupI_of {H : Hp} : ∀ {xs : List V} {ls : List (List Int)}, RowsAt H xs ls → Paired (TupI K H) xs ls
  | _, _, .nil => .nil
  | _, _, .cons ⟨t, e, h⟩ p => .cons ⟨t, e, SqT.of h⟩ (tupI_of p)
theorem tupI_sm {H H' : Hp} (s : Same H H') : ∀ {xs : List V} {ls : List (List Int)}, Paired (TupI K H) xs ls → Paired (TupI K H') xs ls
  | _, _, .nil => .nil
  | _, _, .cons ⟨t, e, h⟩ p => .cons ⟨t, e, SqT.sm s h⟩ (tupI_sm s p)
theorem tupI_dp {H : Hp} : ∀ {xs : List V} {ls : List (List Int)}, Paired (TupI K H) xs ls → DpAll K H xs (ls.map rowD)
  | _, _, .nil => .nil
  | _, _, .cons ⟨t, e, h⟩ p => by
    subst e
    exact .cons (.tup h (ints_dp K H _)) (tupI_dp p)
theorem pi_or {X : Cx} {tg e : Expr} {w1 w2 : TI} (h1 : PI X tg e w1) (h2 : PI X tg e w2) : PI X tg e (fun σ H R => w1 σ H R ∨ w2 σ H R) :=
  ⟨fun pins s σ H R I h => h.elim (h1.run pins s σ H R I) (h2.run pins s σ H R I)⟩
abbrev rLn (K : PySem.W.Frag) : List V → Hp → VK → Prop := fun xs H Q => ∃ p ys, xs = [.ref p] ∧ (SqL K H p ys ∨ SqT K H p ys) ∧ Q (.int ys.length) H
abbrev nv (p : List Nat) : List V := (natB p).map V.int
theorem nv_len (p : List Nat) : (nv p).length = p.length := by
  unfold nv natB
  rw [List.length_map, List.length_map]
theorem natB_len (p : List Nat) : (natB p).length = p.length := by
  unfold natB
  rw [List.length_map]
theorem nv_at {p : List Nat} {i : Nat} {x : V} (h : (nv p)[i]? = some x) : ∃ hi : i < p.length, x = V.int (p[i] : Nat) := by
  unfold nv natB at h
  rw [List.getElem?_map, List.getElem?_map] at h
  cases e : p[i]? with
  | none =>
    rw [e] at h
    cases h
  | some u =>
    rw [e] at h
    obtain ⟨hi, rfl⟩ := List.getElem?_eq_some_iff.mp e
    exact ⟨hi, (Option.some.inj h).symm⟩
theorem nv_get {p : List Nat} {i : Nat} (h : i < p.length) : (nv p)[i]? = some (V.int (p[i] : Nat)) := by
  unfold nv natB
  rw [List.getElem?_map, List.getElem?_map, List.getElem?_eq_getElem h]
  rfl
theorem nv_rg (n : Nat) : rgV 0 (n : Int) = nv (List.range n) := by
  unfold rgV nv natB
  rw [show ((n : Int) - 0).toNat = n by omega, List.map_map]
  exact congrArg (fun f => (List.range n).map f) (funext fun i => by rw [Int.zero_add]; rfl)
theorem nv_cut (p : List Nat) (i : Nat) (h : i ≤ p.length) : cutV (nv p) none (some (i : Int)) = nv (p.take i) := by
  unfold cutV
  rw [HT.sIx_none, HT.sIx_nat, List.drop_zero, Nat.sub_zero, nv_len, Nat.min_eq_left h]
  unfold nv natB
  rw [List.map_take, List.map_take]
theorem repl_all (n : Nat) : (List.replicate n true).all id = true := by
  rw [List.all_eq_true]
  intro x hx
  rw [(List.mem_replicate.mp hx).2]
  rfl
theorem seq_isi {K : PySem.W.Frag} {H : Hp} {a : Addr} {xs : List V} (h : Sq H a xs) : ∃ c b1, TyX K H (.ref a) (.type c) ∧ PySem.W.kitOne K (.type c) (.type "list") = some b1 ∧ (b1 = false → PySem.W.kitOne K (.type c) (.type "tuple") = some true) := by
  rcases h with h | h
  · exact ⟨"list", true, .base (.lst h), kit_ty (by decide +kernel), fun z => by cases z⟩
  · exact ⟨"tuple", false, .base (.tup h), kit_ty (by decide +kernel), fun _ => kit_ty (by decide +kernel)⟩
theorem eraN : ∀ (l : List Nat) (i : Nat), (nv l).eraseIdx i = nv (l.eraseIdx i)
  | [], _ => rfl
  | _ :: _, 0 => rfl
  | a :: l, i + 1 => congrArg (V.int (Int.ofNat a) :: ·) (eraN l i)
theorem appN (l : List Nat) (x : Nat) : nv l ++ [V.int (x : Nat)] = nv (l ++ [x]) := by
  unfold nv natB
  rw [List.map_append, List.map_append]
  rfl
theorem inV_nv (m : Nat) : ∀ p : List Nat, inV (V.int (m : Nat)) (nv p) = decide (m ∈ p)
  | [] => by simp [inV, nv, natB]
  | a :: p => by
    have ih := inV_nv m p
    unfold inV at ih ⊢
    show (eqV (V.int (Int.ofNat a)) (V.int (m : Nat)) || (nv p).any fun y => eqV y (V.int (m : Nat))) = _
    rw [ih]
    by_cases h : m = a
    · subst h
      rw [show eqV (V.int (Int.ofNat m)) (V.int (m : Nat)) = true from decide_eq_true rfl, Bool.true_or, decide_eq_true List.mem_cons_self]
    · rw [show eqV (V.int (Int.ofNat a)) (V.int (m : Nat)) = false from decide_eq_false (fun z => h (by have : (Int.ofNat a) = Int.ofNat m := z; exact (Int.ofNat.inj this).symm)), Bool.false_or]
      exact decide_eq_decide.mpr ⟨fun z => List.mem_cons_of_mem _ z, fun z => (List.mem_cons.mp z).resolve_left h⟩
theorem nv_flat : ∀ p : List Nat, (nv p).all flatV = true
  | [] => rfl
  | a :: p => by
    show (flatV (V.int (Int.ofNat a)) && (nv p).all flatV) = true
    rw [nv_flat p]
    rfl
/-- a tuple and one item more -/
theorem cat_el {K : PySem.W.Frag} {σ : L2.St} {G : Hp} {tt : Addr} {p : List Nat} {x : Nat} {Q : VK} (h4 : σ[4]? = some (some (.ref tt))) (h5 : σ[5]? = some (some (V.int (x : Nat)))) (et : G tt = some (.tup (nv p))) (hl : p.length ≤ 12)
    (fin : ∀ (c : Addr) (G2 : Hp), Same G G2 → G2 c = some (.tup (nv (p ++ [x]))) → Q (.ref c) G2) : tOp (rCatA K) (tVar 4) (tTup (tCons (tVar 5) tNil)) σ G Q := by
  refine ⟨_, h4, _, h5, by show 1 ≤ sizeLine; decide, fun u nu => ?_⟩
  have su := Same.up (o := .tup [V.int (x : Nat)]) nu
  refine ⟨tt, u, _, _, rfl, rfl, SqT.of (su _ _ et), SqT.of upd_same, Nat.le_of_lt (small1000 (by rw [nv_len, List.length_singleton]; omega)), fun hn => ?_, fun _ y => (nomatch y), fun hn _ c nc => ?_⟩
  · have e0 : p = [] := by
      have := nv_len p
      rw [hn] at this
      exact List.length_eq_zero_iff.mp this.symm
    refine fin u _ su ?_
    subst e0
    exact upd_same
  · rw [appN]
    exact fin c _ (su.trans (Same.up nc)) upd_same
abbrev NRows (H : Hp) (xs : List V) (ls : List (List Nat)) : Prop := RowsAt H xs (ls.map natB)
structure Gro (H1 : Hp) (D tt : Addr) (p : List Nat) (ls : List (List Nat)) (H : Hp) : Prop where
  ac : AccR H1 D (ls.map natB) H
  et : H tt = some (.tup (nv p))
theorem Gro.push {H1 H G : Hp} {D tt c : Addr} {p l : List Nat} {ls : List (List Nat)} (g : Gro H1 D tt p ls H) (s : Same H G) (ec : G c = some (.tup (nv l))) (hz : ls.length < sizeLine) :
    ∃ acc, G D = some (.lst acc) ∧ acc.length < sizeLine ∧ Gro H1 D tt p (ls ++ [l]) (upd G D (.lst (acc ++ [V.ref c]))) := by
  obtain ⟨acc, a1, a2, a3⟩ := (g.ac.same s).push (x := .ref c) (l := natB l) ⟨c, rfl, ec⟩ (by rw [List.length_map]; exact hz)
  refine ⟨acc, a1, a2, ?_, ?_⟩
  · rw [List.map_append]
    exact a3
  · rw [upd_ne (ne_of (s _ _ g.et) a1 (by intro y; cases y))]
    exact s _ _ g.et
theorem NRows.get {H : Hp} {xs : List V} {ls : List (List Nat)} {i : Nat} {x : V} (r : NRows H xs ls) (e : xs[i]? = some x) : ∃ (hi : i < ls.length) (t : Addr), x = .ref t ∧ H t = some (.tup (nv ls[i])) := by
  obtain ⟨hi, t, e1, e2⟩ := RowsAt.get r e
  rw [List.length_map] at hi
  rw [List.getElem_map] at e2
  exact ⟨hi, t, e1, e2⟩
theorem NRows.app {H : Hp} {xs ys : List V} {ls ms : List (List Nat)} (a : NRows H xs ls) (b : NRows H ys ms) : NRows H (xs ++ ys) (ls ++ ms) := by
  unfold NRows
  rw [List.map_append]
  exact RowsAt.app a b
theorem nv_tup (K : PySem.W.Frag) {H : Hp} {a : Addr} {p : List Nat} (h : H a = some (.tup (nv p))) : Dp K H (.ref a) (rowD (natB p)) := ints_tup K h
theorem rowD_same (p : List Nat) : PyData.eqv (rowD (natB p)) (rowD (natB p)) = true := by rw [rowD_eqv, decide_eq_true rfl]
theorem sort_rows {K : PySem.W.Frag} {H : Hp} {q : Addr} {ys : List V} {ls : List (List Nat)} {Q : VK} (h : H q = some (.lst ys)) (r : NRows H ys ls) (hn : (∀ l ∈ ls, l ≠ []) ∨ ls.length ≤ 1)
    (fin : ∀ (zs : List V) (p : Addr), H p = none → Paired (TupI K H) zs ((ls.map natB).mergeSort fun p q => decide (p ≤ q)) → Q (.ref p) (upd H p (.lst zs))) : rSortTA K [.ref q] H Q ∨ rSort1 K [.ref q] H Q := by
  rcases hn with hn | hn
  · refine .inl ⟨q, ys, ls.map natB, rfl, SqL.of h, tupI_of r, fun b hb => ?_, fun zs p hz np => fin zs p np hz⟩
    obtain ⟨l, hl, rfl⟩ := List.mem_map.mp hb
    exact fun z => hn l hl (List.map_eq_nil_iff.mp z)
  · have hyl := Paired.length r
    rw [List.length_map] at hyl
    refine .inr ⟨q, ys, rfl, SqL.of h, by omega, fun p np => fin ys p np ?_⟩
    have e : (ls.map natB).mergeSort (fun p q => decide (p ≤ q)) = ls.map natB := by
      match ls, hn with
      | [], _ => exact List.mergeSort_nil
      | [x], _ => exact List.mergeSort_singleton _
      | _ :: _ :: _, hl => simp only [List.length_cons] at hl; omega
    rw [e]
    exact tupI_of r
def insA (x : Int) : List Int → List Int
  | [] => [x]
  | y :: l => if x < y then x :: y :: l else if x = y then y :: l else y :: insA x l
theorem insA_mem {x y : Int} : ∀ {l : List Int}, y ∈ insA x l ↔ y = x ∨ y ∈ l
  | [] => by simp [insA]
  | z :: l => by
    unfold insA
    by_cases h1 : x < z
    · rw [if_pos h1, List.mem_cons]
    · rw [if_neg h1]
      by_cases h2 : x = z
      · rw [if_pos h2]
        subst h2
        simp
      · rw [if_neg h2, List.mem_cons, insA_mem (l := l), List.mem_cons]
        exact ⟨fun h => by rcases h with h | h | h <;> simp [h], fun h => by rcases h with h | h | h <;> simp [h]⟩
theorem insA_asc {x : Int} : ∀ {l : List Int}, l.Pairwise (· < ·) → (insA x l).Pairwise (· < ·)
  | [], _ => List.pairwise_singleton _ _
  | z :: l, h => by
    obtain ⟨h1, h2⟩ := List.pairwise_cons.mp h
    unfold insA
    by_cases a : x < z
    · rw [if_pos a]
      refine List.pairwise_cons.mpr ⟨fun y hy => ?_, h⟩
      rcases List.mem_cons.mp hy with e | e
      · rw [e]; exact a
      · exact Int.lt_trans a (h1 y e)
    · rw [if_neg a]
      by_cases b : x = z
      · rw [if_pos b]
        exact h
      · rw [if_neg b]
        refine List.pairwise_cons.mpr ⟨fun y hy => ?_, insA_asc h2⟩
        rcases insA_mem.mp hy with e | e
        · rw [e]; omega
        · exact h1 y e
/-- the different keys, ascending -/
def ascL (l : List Int) : List Int := l.foldr insA []
theorem ascL_mem {y : Int} : ∀ {l : List Int}, y ∈ ascL l ↔ y ∈ l
  | [] => Iff.rfl
  | x :: l => by
    show y ∈ insA x (ascL l) ↔ _
    rw [insA_mem, ascL_mem (l := l), List.mem_cons]
theorem ascL_asc : ∀ l : List Int, (ascL l).Pairwise (· < ·)
  | [] => List.Pairwise.nil
  | x :: l => insA_asc (ascL_asc l)
theorem asc_nodup {l : List Int} (h : l.Pairwise (· < ·)) : l.Nodup := h.imp fun a => Int.ne_of_lt a
theorem asc_eq {l m : List Int} (h1 : l.Pairwise (· < ·)) (h2 : m.Pairwise (· < ·)) (h : ∀ x, x ∈ l ↔ x ∈ m) : l = m :=
  List.Perm.eq_of_pairwise (fun x y _ _ a b => absurd (Int.lt_trans a b) (Int.lt_irrefl _)) h1 h2 ((List.perm_ext_iff_of_nodup (asc_nodup h1) (asc_nodup h2)).mpr fun x => h x)
def tTruK (K : PySem.W.Frag) (ta : TE) : TT := fun σ H Q => ta σ H fun x H' => ∃ k, TruV K x H' k ∧ Q k H'
theorem pt_truK {X : Cx} {K : PySem.W.Frag} {a : Expr} {ta : TE} (hK : X.K = K) (ha : PE X a ta) (he : ∀ whole, isTrue a X.env whole = (do let v ← whole; standAt a.pos; holding [v] (truthy v))) : PT X a (tTruK K ta) := by
  subst hK
  exact pt_truth ha he
/-- what stood before an instance was made stands behind its making -/
theorem new_same {C x dx : Addr} {H H' : Hp} (nx : H x = none) (ndx : H dx = none) (k : ∀ b o, (upd (upd H dx (.own x)) x (.ins C dx [])) b = some o → b ≠ x → H' b = some o) : Same H H' := fun b o e => by
  refine k b o ?_ (ne_of_none e nx)
  rw [upd_ne (ne_of_none e nx), upd_ne (ne_of_none e ndx)]
  exact e

theorem repl_any (n : Nat) : (List.replicate n false).any id = false := by
  rw [List.any_eq_false]
  intro x hx
  rw [(List.mem_replicate.mp hx).2]
  exact Bool.false_ne_true
theorem nv_set (l : List Nat) (i x : Nat) : (nv l).set i (V.int (x : Nat)) = nv (l.set i x) := by
  unfold nv natB
  rw [List.map_set, List.map_set]
  rfl
theorem nv_repl (m : Nat) : (List.replicate m [V.int 0]).flatten = nv (List.replicate m 0) := by
  unfold nv natB
  rw [List.flatten_replicate_singleton, List.map_replicate, List.map_replicate]
  rfl
def spRbo : Sp := fun vs H Q _ => ∃ (a : Addr) (l : List Nat), vs = [.ref a] ∧ H a = some (.lst (nv l)) ∧ l.length ≤ 12 ∧ (∀ x ∈ l, x < l.length) ∧ ∀ (H' : Hp) (t : Addr), Same H H' → H' t = some (.tup (nv (byO l))) → Q (.ref t) H'
theorem ok_rbo (T : Tx K mg A) : FnOk P w K mg base CX0 1 A.f_row_by_order A.d_row_by_order ["places"] spRbo := by
  refine T.F_row_by_order.ok sc_row_by_order (fun vs H Q E h => ?_) (fun cdv B outer s H vs Q E hr h => ?_)
  · obtain ⟨a, l, rfl, _⟩ := h
    rfl
  · obtain ⟨a, l, rfl, ha, hl, hs, q⟩ := h
    have nd := sc_row_by_order.nd
    refine ⟨_, (C8.pss_cut (ps_set (i := 1) nd rfl (Or.inl rfl) (pe_op op_rep (pe_lst (pa_cons pe_int pa_nil)) (pe_callB call_len_seq (by rfl) T.g_len PySem.boot_len (pa_cons (pv 0) pa_nil))))
      (C8.pss_cut (ps_for PassesOwn.never rfl (pi_enS (by rfl) T.g_enumerate (pa_cons (pv 0) pa_nil)) (pg_tup rfl (pgs_cons (pg_name (i := 2) nd rfl (Or.inl rfl)) (pgs_cons (pg_name (i := 3) nd rfl (Or.inl rfl)) pgs_nil))) (pss_one (ps_asg (pv 2) (pg_sub (pv 1) (pv 3) set_list))))
      (pss_one (ps_ret (pe_callTy call_tuple_of (by rfl) T.g_tuple (by decide +kernel) (pa_cons (pv 1) pa_nil)))))), ?_⟩
    refine ⟨fun σ' H' => ∃ R : Addr, σ' = [some (.ref a), some (.ref R), none, none] ∧ Acc H R (nv (byT l 0)) H', ?_, ?_⟩
    · refine ⟨by show 1 ≤ sizeLine; decide, fun l1 n1 => ?_⟩
      have s1 := Same.up (o := .lst [V.int 0]) n1
      refine ⟨_, rfl, a, _, rfl, .inl (SqL.of (s1 _ _ ha)), l1, ((nv l).length : Nat), _, rfl, rfl, upd_same, by omega, by rw [nv_len]; omega, ?_, fun l2 n2 => ⟨l2, rfl, ?_⟩⟩
      · show 1 * (((nv l).length : Nat) : Int).toNat ≤ sizeLine
        rw [nv_len, Int.toNat_natCast, sizeLine_eq]
        omega
      · rw [Int.toNat_natCast, nv_len, nv_repl]
        exact ⟨s1.trans (Same.up n2), s1.free n2, upd_same⟩
    rintro σ' H1 ⟨R, rfl, ac1⟩
    refine ⟨fun σ' H' => ∃ x2 x3 : Option V, σ' = [some (.ref a), some (.ref R), x2, x3] ∧ Acc H R (nv (byO l)) H', ?_, ?_⟩
    · refine ⟨_, rfl, a, _, rfl, .inl ⟨SqL.of (ac1.s _ _ ha), for_it (walk_enum (xs := nv l)) (fun i σ' H' => ∃ x2 x3 : Option V, σ' = [some (.ref a), some (.ref R), x2, x3] ∧ Acc H R (nv (byT l i)) H') ⟨none, none, rfl, ac1⟩ (fun i σ' H' _ ⟨_, _, _, ac⟩ => SqL.of (ac.s _ _ ha)) ?_ ?_⟩⟩
      · rintro i v σ' H2 H3 hi ⟨x2, x3, rfl, ac⟩ ⟨T', x, y, rfl, hT, rfl, e1, e2⟩
        obtain ⟨hi2, rfl⟩ := nv_at e2
        cases e1
        have ac3 := ac.same (Same.up (o := .tup [V.int (i : Nat), V.int (l[i] : Nat)]) hT)
        refine ⟨_, _, rfl, SqT.of upd_same, rfl, _, _, rfl, _, _, rfl, rfl, ?_⟩
        generalize upd H2 T' (.tup [V.int (i : Nat), V.int (l[i] : Nat)]) = G at ac3
        have hlt := hs _ (List.getElem_mem hi2)
        refine ⟨_, rfl, _, rfl, _, rfl, R, nv (byT l i), _, l[i], rfl, rfl, ac3.a, ?_, _, _, rfl, ?_⟩
        · unfold ixN
          rw [if_pos (by omega), Int.toNat_natCast, if_pos (by rw [nv_len, byT_len]; omega)]
        · rw [nv_set]
          have e : byT l (i + 1) = (byT l i).set l[i] i := by
            show (byT l i).set (l.getD i 0) i = _
            rw [List.getD_eq_getElem?_getD, List.getElem?_eq_getElem hi2]
            rfl
          rw [e]
          exact ⟨fun b o k => by rw [upd_ne (ne_of_none k ac3.n)]; exact ac3.s b o k, ac3.n, upd_same⟩
      · rintro σ' H2 ⟨x2, x3, rfl, ac⟩
        rw [nv_len] at ac
        exact ⟨x2, x3, rfl, ac⟩
    rintro σ' H2 ⟨x2, x3, rfl, ac⟩
    exact ⟨_, rfl, R, _, rfl, .inl ⟨SqL.of ac.a, fun u nu => q _ u (ac.s.trans (Same.up nu)) upd_same⟩⟩
theorem b_rbo (T : Tx K mg A) : L2.Binds K A.d_row_by_order ["places"] [] := T.F_row_by_order.binds fun _ _ _ _ _ _ us hl => match us, hl with | [_], _ => rfl
theorem nv_appL (a b : List Nat) : nv a ++ nv b = nv (a ++ b) := by
  unfold nv natB
  rw [List.map_append, List.map_append]
end
end Tw

set_option Elab.async false
set_option linter.all false
set_option maxRecDepth 100000
set_option maxHeartbeats 2000000
namespace Tw
open PySem PySem.Spec PyProof.Rows L2
section
variable {P : Program} {w : World} {K : PySem.W.Frag} {mg : Str → Option Value} {base : Heap} {A : Ad}
/-! the program's own defs -/
theorem sqT_ty {K : PySem.W.Frag} {H : Hp} {a : Addr} {xs : List V} (h : SqT K H a xs) : TyX K H (.ref a) (.type "tuple") := by
  rcases h with (h | ⟨o, h⟩) | ⟨o, its, n, e, c, _⟩
  · exact .base (.tup h)
  · exact .fTuple h
  · exact .kTuple e c
theorem ok_ci (T : Tx K mg A) : FnOk P w K mg base CX0 3 A.f_check_index A.d_check_index ["index", "many"] spCp := by
  refine T.F_check_index.ok sc_check_index (fun vs H Q E h => ?_) (fun cdv B outer s H vs Q E hr h => ?_)
  · obtain ⟨i, n, rfl, _⟩ := h
    rfl
  · obtain ⟨i, n, rfl, hi, q⟩ := h
    refine ⟨_, (pss_one (ps_if (pt_not (pt_val (pe_call (ok_ii T) (hr.mono (by decide)) (by rfl) T.m_is_integer_from T.F_is_integer_from.kp (b_ii T) .nil pass0 (pa_cons (pv 0) (pa_cons pe_int (pa_cons (pe_op op_sub (pv 1) pe_int) pa_nil)))))) (pss_one ps_never) pss_nil)), ?_⟩
    refine ⟨_, rfl, _, rfl, _, _, rfl, rfl, _, _, _, rfl, .inl ⟨i, rfl, _, rfl, ?_⟩⟩
    rw [decide_eq_true (show 0 ≤ i ∧ i ≤ n - 1 by omega)]
    exact iteF q
theorem b_ci (T : Tx K mg A) : L2.Binds K A.d_check_index ["index", "many"] [] := T.F_check_index.binds fun _ _ _ _ _ _ us hl => match us, hl with | [_, _], _ => rfl
def spCc : Sp := fun vs H Q _ => ∃ i n : Nat, vs = [.int i, .int n] ∧ i ≤ n ∧ Q .non H
theorem ok_cc (T : Tx K mg A) : FnOk P w K mg base CX0 3 A.f_check_count A.d_check_count ["count", "many"] spCc := by
  refine T.F_check_count.ok sc_check_count (fun vs H Q E h => ?_) (fun cdv B outer s H vs Q E hr h => ?_)
  · obtain ⟨i, n, rfl, _⟩ := h
    rfl
  · obtain ⟨i, n, rfl, hi, q⟩ := h
    refine ⟨_, (pss_one (ps_if (pt_not (pt_val (pe_call (ok_ii T) (hr.mono (by decide)) (by rfl) T.m_is_integer_from T.F_is_integer_from.kp (b_ii T) .nil pass0 (pa_cons (pv 0) (pa_cons pe_int (pa_cons (pv 1) pa_nil)))))) (pss_one ps_never) pss_nil)), ?_⟩
    refine ⟨_, rfl, _, rfl, _, _, _, rfl, .inl ⟨i, rfl, _, rfl, ?_⟩⟩
    rw [decide_eq_true (show (0 : Int) ≤ (i : Nat) ∧ ((i : Nat) : Int) ≤ (n : Nat) by omega)]
    exact iteF q
theorem b_cc (T : Tx K mg A) : L2.Binds K A.d_check_count ["count", "many"] [] := T.F_check_count.binds fun _ _ _ _ _ _ us hl => match us, hl with | [_, _], _ => rfl
/-- a tuple and one item more, by slots -/
theorem cat_elG {K : PySem.W.Frag} {σ : L2.St} {G : Hp} {ia ib : Nat} {tt : Addr} {p : List Nat} {x : Nat} {Q : VK} (h4 : σ[ia]? = some (some (.ref tt))) (h5 : σ[ib]? = some (some (V.int (x : Nat)))) (et : G tt = some (.tup (nv p))) (hl : p.length ≤ 12)
    (fin : ∀ (c : Addr) (G2 : Hp), Same G G2 → G2 c = some (.tup (nv (p ++ [x]))) → Q (.ref c) G2) : tOp (rCatA K) (tVar ia) (tTup (tCons (tVar ib) tNil)) σ G Q := by
  refine ⟨_, h4, _, h5, by show 1 ≤ sizeLine; decide, fun u nu => ?_⟩
  have su := Same.up (o := .tup [V.int (x : Nat)]) nu
  refine ⟨tt, u, _, _, rfl, rfl, SqT.of (su _ _ et), SqT.of upd_same, Nat.le_of_lt (small1000 (by rw [nv_len, List.length_singleton]; omega)), fun hn => ?_, fun _ y => (nomatch y), fun hn _ c nc => ?_⟩
  · have e0 : p = [] := by
      have := nv_len p
      rw [hn] at this
      exact List.length_eq_zero_iff.mp this.symm
    refine fin u _ su ?_
    subst e0
    exact upd_same
  · rw [appN]
    exact fin c _ (su.trans (Same.up nc)) upd_same
def DomT (n w : Nat) : Prop := (n ≤ 8 ∨ (n = 12 ∧ w = 1)) ∧ (1 ≤ w ∧ w ≤ 4)
theorem DomT.n12 {n w : Nat} (h : DomT n w) : n ≤ 12 := by
  rcases h.1 with h | h <;> omega
theorem all_up {w p m : Nat} (hm : m < (allC w p).length) : (((allC w p).take (m + 1)).filter (okUp w p)).map (fun s => s ++ [p]) = (((allC w p).take m).filter (okUp w p)).map (fun s => s ++ [p]) ++ if okUp w p (allC w p)[m] = true then [(allC w p)[m] ++ [p]] else [] := by
  rw [← List.take_append_getElem hm, List.filter_append, List.map_append]
  congr 1
  by_cases h : okUp w p (allC w p)[m] = true
  · rw [if_pos h, List.filter_cons_of_pos h]
    rfl
  · rw [if_neg h, List.filter_cons_of_neg h]
    rfl
def spAc (C : Addr) : Sp := fun vs H Q _ => ∃ (p n w : Nat), vs = [.ref p] ∧ TreeAt C H p n w ∧ DomT n w ∧ ∀ (H' : Hp) (q : Addr) (xs : List V), Same H H' → H q = none → H' q = some (.lst xs) → NRows H' xs (allC w n) → Q (.ref q) H'
theorem ok_ac (T : Tx K mg A) : FnOk P w K mg base CX0 5 A.f_all_closed A.d_all_closed ["tree"] (spAc A.C) := by
  refine T.F_all_closed.ok sc_all_closed (fun vs H Q E h => ?_) (fun cdv B outer s H vs Q E hr h => ?_)
  · obtain ⟨p, n, w, rfl, _⟩ := h
    rfl
  · obtain ⟨p, n, w, rfl, t0, hdom, q⟩ := h
    have nd := sc_all_closed.nd
    have hn12 := hdom.n12
    obtain ⟨dx, l, h1, h2⟩ := id t0.ob
    have noP : (tf n w l).lookup ("parent" : Str) = none := tf_no _ _ _ (by decide +kernel) (by decide +kernel) (by decide +kernel)
    refine ⟨_, (pss_cons (ps_set (i := 1) nd rfl (Or.inl rfl) (pe_lst (pa_cons (pe_tup pa_nil) pa_nil)))
      (C8.pss_cut (ps_for PassesOwn.never rfl (pi_own T.D_t___iter__ (ok_iter T) (hr.mono (by decide)) (b_iter T) (pv 0)) (pg_name (i := 2) nd rfl (Or.inr rfl)) (pss_one (ps_set (i := 1) nd rfl (Or.inl rfl) (pe_op op_cat (pv 1) (pe_lc (own := [("closed", 3)]) (g := gName 3) rfl nd (pi_list (pv 1)) (blkOk_by (own := [("closed", 3)]) (N := ["tree", "found", "place", "closed"]) (sc := (defScope s_all_closed)) (by decide +kernel)) (fun _ _ _ _ _ => pg_name (i := 3) nd rfl (Or.inl rfl)) (fun _ _ _ _ _ => pts_one (PW.pt (pw_or (pt_cmpR op_eq (pv 2) pe_int (nomark _)) (pw_or1 (pt_cmpR (r := L2.rIn K false) op_in_seq (pe_meth (pv 0) T.cT T.M_t_parent (ok_par T) (hr.mono (by decide)) (b_par T) .nil pass0 (pa_cons (pv 2) pa_nil)) (pv 3) (by rfl)))))) (fun _ _ _ _ _ => (pe_op (r := rCatA K) op_catA (pv 3) (pe_tup (pa_cons (pv 2) pa_nil)))))))))
      (pss_one (ps_ret (pv 1))))), ?_⟩
    refine ⟨Nat.zero_le _, fun e ne => ⟨by show 1 ≤ sizeLine; decide, fun D nD => ?_⟩⟩
    have se := Same.up (o := .tup []) ne
    have s0 : Same H (upd (upd H e (.tup [])) D (.lst [V.ref e])) := se.trans (Same.up nD)
    have eD : upd (upd H e (.tup [])) D (.lst [V.ref e]) D = some (.lst [V.ref e]) := upd_same
    have rD : NRows (upd (upd H e (.tup [])) D (.lst [V.ref e])) [V.ref e] (allC w 0) := .cons ⟨e, rfl, (Same.up nD) _ _ upd_same⟩ .nil
    have nD0 := se.free nD
    generalize upd (upd H e (.tup [])) D (.lst [V.ref e]) = G at s0 eD rD
    refine ⟨fun σ' H' => ∃ (x2 : Option V) (q1 : Addr) (xs : List V), σ' = [some (.ref p), some (.ref q1), x2, none] ∧ Same H H' ∧ H q1 = none ∧ H' q1 = some (.lst xs) ∧ NRows H' xs (allC w n), ?_, ?_⟩
    · refine ⟨_, rfl, p, dx, _, l, _, rfl, s0 _ _ h1, tf_pl _ _ _, SqT.of (s0 _ _ h2), ?_⟩
      refine for_it (walk_tup (xs := pl n)) (fun i σ' H' => ∃ (x2 : Option V) (q1 : Addr) (xs : List V), σ' = [some (.ref p), some (.ref q1), x2, none] ∧ Same H H' ∧ H q1 = none ∧ H' q1 = some (.lst xs) ∧ NRows H' xs (allC w i))
        ⟨none, D, _, rfl, s0, nD0, eD, rD⟩ (fun i σ' H' _ ⟨_, _, _, _, s, _⟩ => SqT.of (s _ _ h2)) ?_ ?_
      · rintro i x σ' H3o H3 hi ⟨x2, q1, xs, rfl, s3, n3, e3, r3⟩ ⟨rfl, hx⟩
        obtain ⟨hi2, rfl⟩ := plAt hx
        obtain ⟨hal, hae⟩ := all_len w hdom.2.1 hdom.2.2 n hdom.1 i (by omega)
        have t3 := t0.same s3
        have hxl : xs.length = (allC w i).length := by
          have := Paired.length r3
          rw [List.length_map] at this
          exact this
        refine ⟨_, rfl, _, rfl, q1, rfl, ⟨_, SqL.of e3⟩, fun D2 nD2 => ?_⟩
        refine lc_it (walk_list (xs := xs)) (fun m H' => AccR H3 D2 (((((allC w i).take m).filter (okUp w i)).map fun s => s ++ [i]).map natB) H') (AccR.start nD2) (fun m H' _ ac => SqL.of (ac.s _ _ e3)) ?_ ?_
        · rintro m y H4o H4 hm ac ⟨rfl, hy⟩
          obtain ⟨hm2, t, rfl, et⟩ := r3.get hy
          have hsl := hae _ (List.getElem_mem hm2)
          have et4 := ac.s _ _ et
          have s4 := s3.trans ac.s
          rw [all_up hm2]
          have hml : (((allC w i).take m).filter (okUp w i)).length ≤ 200 := Nat.le_trans (List.length_filter_le _ _) (by rw [List.length_take]; omega)
          have yes : okUp w i (allC w i)[m] = true → ∀ (c : Addr) (G2 : Hp), Same H4 G2 → G2 c = some (.tup (nv ((allC w i)[m] ++ [i]))) → ∃ acc, G2 D2 = some (.lst acc) ∧ acc.length < sizeLine ∧
              AccR H3 D2 (((((allC w i).take m).filter (okUp w i)).map (fun s => s ++ [i]) ++ if okUp w i (allC w i)[m] = true then [(allC w i)[m] ++ [i]] else []).map natB) (upd G2 D2 (.lst (acc ++ [V.ref c]))) := fun ho c G2 sG ec => by
            obtain ⟨acc, a1, a2, a3⟩ := (ac.same sG).push (x := .ref c) (l := natB ((allC w i)[m] ++ [i])) ⟨c, rfl, ec⟩ (small1000 (by rw [List.length_map, List.length_map]; omega))
            refine ⟨acc, a1, a2, ?_⟩
            rw [if_pos ho, List.map_append]
            exact a3
          refine ⟨rfl, _, rfl, rfl, _, rfl, ?_⟩
          by_cases h0 : i = 0
          · have ho : okUp w i (allC w i)[m] = true := by unfold okUp; rw [decide_eq_true h0, Bool.true_or]
            rw [decide_eq_true (show V.int (i : Nat) = V.int 0 by rw [h0]; rfl)]
            refine iteT (iteT ?_)
            exact cat_elG rfl rfl et4 (by omega) fun c G2 sG ec => yes ho c G2 sG ec
          · rw [decide_eq_false (show ¬ V.int (i : Nat) = V.int 0 by intro z; injection z with z; omega)]
            refine iteF ?_
            refine ⟨_, rfl, p, dx, _, rfl, s4 _ _ h1, noP, _, rfl, p, n, w, i, rfl, t0.same s4, hi2, ?_⟩
            unfold parV
            rw [if_neg h0]
            refine ⟨_, rfl, t, _, rfl, .inr (SqT.of et4), rfl, nv_flat _, _, rfl, ?_⟩
            rw [if_neg Bool.false_ne_true, inV_nv]
            by_cases hin : (i - 1) / w ∈ (allC w i)[m]
            · have ho : okUp w i (allC w i)[m] = true := by unfold okUp; rw [decide_eq_true hin, Bool.or_true]
              rw [decide_eq_true hin]
              refine iteT ?_
              exact cat_elG rfl rfl et4 (by omega) fun c G2 sG ec => yes ho c G2 sG ec
            · have ho : ¬ okUp w i (allC w i)[m] = true := by unfold okUp; rw [decide_eq_false hin, decide_eq_false h0]; exact Bool.false_ne_true
              rw [decide_eq_false hin]
              refine iteF ?_
              rw [if_neg ho, List.append_nil]
              exact ac
        · intro H4 ac
          rw [hxl, List.take_length] at ac
          obtain ⟨zs, ez, rz⟩ := ac.a
          have e43 := ac.s _ _ e3
          have hzl : zs.length ≤ 200 := by
            have := Paired.length rz
            rw [List.length_map, List.length_map] at this
            have h2 := List.length_filter_le (okUp w i) (allC w i)
            omega
          refine ⟨q1, D2, _, _, rfl, rfl, e43, ez, by rw [sizeLine_eq]; omega, fun L nL => ?_⟩
          have sL := ac.s.trans (Same.up (o := .lst (xs ++ zs)) nL)
          refine ⟨_, L, _, rfl, s3.trans sL, s3.free (ac.s.free nL), upd_same, ?_⟩
          exact RowsAt.same (NRows.app (RowsAt.same r3 ac.s) rz) (Same.up nL)
      · rintro σ' H3 ⟨x2, q1, xs, rfl, s3, n3, e3, r3⟩
        rw [pl_len] at r3
        exact ⟨x2, q1, xs, rfl, s3, n3, e3, r3⟩
    · rintro σ' H3 ⟨x2, q1, xs, rfl, s3, n3, e3, r3⟩
      exact ⟨_, rfl, q H3 q1 xs s3 n3 e3 r3⟩
theorem b_ac (T : Tx K mg A) : L2.Binds K A.d_all_closed ["tree"] [] := T.F_all_closed.binds fun _ _ _ _ _ _ us hl => match us, hl with | [_], _ => rfl

end
end Tw

set_option Elab.async false
set_option linter.all false
set_option maxRecDepth 100000
set_option maxHeartbeats 2000000
namespace Tw
open PySem PySem.Spec PyProof.Rows L2
section
variable {P : Program} {w : World} {K : PySem.W.Frag} {mg : Str → Option Value} {base : Heap} {A : Ad}
theorem closC_ne {n w c : Nat} (h : Dom n w c) : (∀ l ∈ closC n w c, l ≠ []) ∨ (closC n w c).length ≤ 1 := by
  by_cases h0 : c = 0
  · subst h0
    refine .inr ?_
    rw [← (okC_parts h).1.length_eq]
    rcases h.1 with a | ⟨rfl, rfl⟩
    · have := (first_ok w (by have := h.2.1; omega) n (by omega) h.2.1.1).1
      omega
    · have := one_arm 0 (by decide)
      omega
  · refine .inl fun l hl z => ?_
    have := of_decide_eq_true (List.mem_filter.mp hl).2
    rw [z] at this
    exact h0 this.symm
abbrev TRows (K : PySem.W.Frag) (H : Hp) (xs : List V) (ls : List (List Nat)) : Prop := Paired (TupI K H) xs (ls.map natB)
theorem TRows.get {H : Hp} : ∀ {xs : List V} {ls : List (List Int)} {i : Nat} {x : V}, Paired (TupI K H) xs ls → xs[i]? = some x → ∃ hi : i < ls.length, TupI K H x ls[i]
  | _, _, 0, _, .cons a _, e => ⟨Nat.succ_pos _, by rw [← Option.some.inj e]; exact a⟩
  | _, _, i + 1, _, .cons _ b, e => by
    obtain ⟨hi, r⟩ := TRows.get b (by simpa using e)
    exact ⟨Nat.succ_lt_succ hi, r⟩
def spCs (K : PySem.W.Frag) : Sp := fun vs H Q _ => ∃ (n c w : Nat), vs = [.int n, .int c, .int w] ∧ Dom n w c ∧ ∀ (H' : Hp) (q : Addr) (xs : List V), Same H H' → H q = none → H' q = some (.lst xs) → TRows K H' xs (tC n w c) → Q (.ref q) H'
theorem ok_cs (T : Tx K mg A) : FnOk P w K mg base CX0 6 A.f_closed_sets A.d_closed_sets ["many", "count", "arms"] (spCs K) := by
  obtain ⟨mi, ki⟩ := kb_init T
  refine T.F_closed_sets.ok sc_closed_sets (fun vs H Q E h => ?_) (fun cdv B outer s H vs Q E hr h => ?_)
  · obtain ⟨n, c, w, rfl, _⟩ := h
    rfl
  · obtain ⟨n, c, w, rfl, hdom, q⟩ := h
    have nd := sc_closed_sets.nd
    have hu2 : (B.deeper (envOfC "closed_sets" (defScope s_closed_sets) s.heap.objs.size A.f_closed_sets cdv)).units + 65 < cLine := by have := hr.un; omega
    have hdt : DomT n w := ⟨hdom.1, hdom.2.1⟩
    have hn12 := hdt.n12
    have hcn := hdom.2.2
    refine ⟨_, PSs.nox (pss_cons (ps_set (i := 3) nd rfl (Or.inl rfl) (pe_makeK T.mkC (ok_init T) (hr.mono (by decide)) (by rfl) T.mC ki pass0 (pa_cons (pv 0) pa_nil) (pk_cons (pv 2) pk_nil)))
      (pss_cons (ps_expr (pe_call (ok_cc T) (hr.mono (by decide)) (by rfl) T.m_check_count T.F_check_count.kp (b_cc T) .nil pass0 (pa_cons (pv 1) (pa_cons (pv 0) pa_nil))))
      (pss_one (ps_ret (pe_callB (cr_or (cr_sortTA hu2) cr_sort1) (by rfl) T.g_sorted (by decide +kernel) (pa_cons (pe_lc (own := [("closed", 4)]) (g := gName 4) rfl nd (pi_list (pe_call (ok_ac T) (hr.mono (by decide)) (by rfl) T.m_all_closed T.F_all_closed.kp (b_ac T) .nil pass0 (pa_cons (pv 3) pa_nil))) (blkOk_by (own := [("closed", 4)]) (N := ["many", "count", "arms", "tree", "closed"]) (sc := (defScope s_closed_sets)) (by decide +kernel)) (fun _ _ _ _ _ => pg_name (i := 4) nd rfl (Or.inl rfl)) (fun _ _ _ _ _ => pts_one (pt_cmpR op_eq (pe_callB (r := rLn K) call_len_seq (by rfl) T.g_len PySem.boot_len (pa_cons (pv 4) pa_nil)) (pv 1) (nomark _))) (fun _ _ _ _ _ => (pv 4))) pa_nil)))))), ?_⟩
    refine ⟨_, rfl, _, rfl, rfl, rfl, fun x dx nx ndx nex => ⟨x, dx, n, w, rfl, hn12, hdom.2.1, upd_same, fun H1 k1 t1 => ?_⟩⟩
    have s1 := new_same nx ndx k1
    refine ⟨rfl, _, rfl, _, rfl, c, n, rfl, hcn, ?_⟩
    refine ⟨_, rfl, x, n, w, rfl, t1, hdt, fun H2 q1 xs s2 n2 e2 r2 => ?_⟩
    refine ⟨q1, rfl, ⟨_, SqL.of e2⟩, fun D nD => ?_⟩
    have hxl : xs.length = (allC w n).length := by
      have := Paired.length r2
      rw [List.length_map] at this
      exact this
    obtain ⟨hal, hae⟩ := all_len w hdt.2.1 hdt.2.2 n hdt.1 n (Nat.le_refl _)
    refine lc_it (walk_list (xs := xs)) (fun m H' => AccR H2 D ((((allC w n).take m).filter fun s => decide (s.length = c)).map natB) H') (AccR.start nD) (fun m H' _ ac => SqL.of (ac.s _ _ e2)) ?_ ?_
    · rintro m y H4o H4 hm ac ⟨rfl, hy⟩
      obtain ⟨hm2, t, rfl, et⟩ := r2.get hy
      have et4 := ac.s _ _ et
      have hml : (((allC w n).take m).filter fun s => decide (s.length = c)).length ≤ 200 := Nat.le_trans (List.length_filter_le _ _) (by rw [List.length_take]; omega)
      refine ⟨rfl, _, rfl, t, _, rfl, .inr (SqT.of et4), _, rfl, rfl, _, rfl, ?_⟩
      rw [nv_len, ← List.take_append_getElem hm2, List.filter_append]
      by_cases hc : (allC w n)[m].length = c
      · rw [decide_eq_true (show V.int ((allC w n)[m].length : Nat) = V.int (c : Nat) by rw [hc])]
        refine iteT ⟨_, rfl, ?_⟩
        rw [List.filter_cons_of_pos (by rw [decide_eq_true hc]), List.filter_nil, List.map_append]
        obtain ⟨acc, a1, a2, a3⟩ := ac.push (x := .ref t) (l := natB (allC w n)[m]) ⟨t, rfl, et4⟩ (small1000 (by rw [List.length_map]; omega))
        exact ⟨acc, a1, a2, a3⟩
      · rw [decide_eq_false (show ¬ V.int ((allC w n)[m].length : Nat) = V.int (c : Nat) from fun z => hc (by injection z with z; exact Int.ofNat.inj z))]
        refine iteF ?_
        rw [List.filter_cons_of_neg (by rw [decide_eq_false hc]; exact Bool.false_ne_true), List.filter_nil, List.append_nil]
        exact ac
    · intro H4 ac
      rw [hxl, List.take_length] at ac
      obtain ⟨zs, ez, rz⟩ := ac.a
      refine sort_rows ez rz (closC_ne hdom) fun us p np hu3 => ?_
      rw [show (((allC w n).filter fun s => decide (s.length = c)).map natB).mergeSort (fun p q => decide (p ≤ q)) = (tC n w c).map natB from sort_tC hdom] at hu3
      have s12 := s1.trans (s2.trans ac.s)
      exact q _ p us (s12.trans (Same.up np)) (s12.free np) upd_same (tupI_sm (Same.up np) hu3)
theorem kcs (T : Tx K mg A) : ∃ mv : List Value, KBn K A.d_closed_sets ["many", "count", "arms"] 2 ["arms"] (fun us ws => us ++ (mv ++ ws)) (fun vs zs => vs ++ zs) := by
  obtain ⟨mv, h⟩ := T.F_closed_sets.kbinds0 (ps := ["many", "count", "arms"]) 2 ["arms"] [] (fun us mv ws => us ++ (mv ++ ws)) (by simp) (by simp) (fun r1 r2 r3 => r1.append (r2.append r3))
    (fun D doc pm an cdv ct us mv ws h1 h2 h3 => by
      match us, mv, ws, h1, h2, h3 with
      | [a, b], [], [c], _, _, _ => rfl)
  exact ⟨mv, h⟩
def spMc : Sp := fun vs H Q _ => ∃ (n c w : Nat), vs = [.int n, .int c, .int w] ∧ Dom n w c ∧ ∀ H' : Hp, Same H H' → Q (.int ((tC n w c).length : Nat)) H'
theorem ok_mc (T : Tx K mg A) : FnOk P w K mg base CX0 7 A.f_many_closed A.d_many_closed ["many", "count", "arms"] spMc := by
  obtain ⟨mc, kcs⟩ := kcs T
  refine T.F_many_closed.ok sc_many_closed (fun vs H Q E h => ?_) (fun cdv B outer s H vs Q E hr h => ?_)
  · obtain ⟨n, c, w, rfl, _⟩ := h
    rfl
  · obtain ⟨n, c, w, rfl, hdom, q⟩ := h
    refine ⟨_, (pss_one (ps_ret (pe_callB call_len_seq (by rfl) T.g_len PySem.boot_len (pa_cons (pe_callN (ok_cs T) (hr.mono (by decide)) (by rfl) T.m_closed_sets T.F_closed_sets.kp kcs pass0 (pa_cons (pv 0) (pa_cons (pv 1) pa_nil)) (pk_cons (pv 2) pk_nil)) pa_nil)))), ?_⟩
    refine ⟨_, rfl, _, rfl, _, rfl, rfl, rfl, n, c, w, rfl, hdom, fun H1 z xs s1 n1 e1 r1 => ?_⟩
    refine ⟨z, xs, rfl, .inl (SqL.of e1), ?_⟩
    rw [Paired.length r1, List.length_map]
    exact q _ s1
theorem kmc (T : Tx K mg A) : ∃ mv : List Value, KBn K A.d_many_closed ["many", "count", "arms"] 2 ["arms"] (fun us ws => us ++ (mv ++ ws)) (fun vs zs => vs ++ zs) := by
  obtain ⟨mv, h⟩ := T.F_many_closed.kbinds0 (ps := ["many", "count", "arms"]) 2 ["arms"] [] (fun us mv ws => us ++ (mv ++ ws)) (by simp) (by simp) (fun r1 r2 r3 => r1.append (r2.append r3))
    (fun D doc pm an cdv ct us mv ws h1 h2 h3 => by
      match us, mv, ws, h1, h2, h3 with
      | [a, b], [], [c], _, _, _ => rfl)
  exact ⟨mv, h⟩
def spAt (K : PySem.W.Frag) : Sp := fun vs H Q _ => ∃ (n c i w : Nat) (s : List Nat), vs = [.int n, .int c, .int i, .int w] ∧ Dom n w c ∧ (tC n w c)[i]? = some s ∧ ∀ (H' : Hp) (v : V), Same H H' → TupI K H' v (natB s) → Q v H'
theorem ok_at (T : Tx K mg A) : FnOk P w K mg base CX0 7 A.f_closed_at A.d_closed_at ["many", "count", "index", "arms"] (spAt K) := by
  obtain ⟨mc, kcs⟩ := kcs T
  refine T.F_closed_at.ok sc_closed_at (fun vs H Q E h => ?_) (fun cdv B outer s H vs Q E hr h => ?_)
  · obtain ⟨n, c, i, w, s, rfl, _⟩ := h
    rfl
  · obtain ⟨n, c, i, w, s, rfl, hdom, hi, q⟩ := h
    have nd := sc_closed_at.nd
    refine ⟨_, PSs.nox (pss_cons (ps_set (i := 4) nd rfl (Or.inl rfl) (pe_callN (ok_cs T) (hr.mono (by decide)) (by rfl) T.m_closed_sets T.F_closed_sets.kp kcs pass0 (pa_cons (pv 0) (pa_cons (pv 1) pa_nil)) (pk_cons (pv 3) pk_nil)))
      (pss_cons (ps_expr (pe_call (ok_ci T) (hr.mono (by decide)) (by rfl) T.m_check_index T.F_check_index.kp (b_ci T) .nil pass0 (pa_cons (pv 2) (pa_cons (pe_callB call_len_seq (by rfl) T.g_len PySem.boot_len (pa_cons (pv 4) pa_nil)) pa_nil))))
      (pss_one (ps_ret (pe_ix ix_list (pv 4) (pv 2) (fun _ _ => rfl)))))), ?_⟩
    refine ⟨_, rfl, _, rfl, _, rfl, rfl, rfl, n, c, w, rfl, hdom, fun H1 z xs s1 n1 e1 r1 => ?_⟩
    have hxl : xs.length = (tC n w c).length := by
      have := Paired.length r1
      rw [List.length_map] at this
      exact this
    obtain ⟨hi2, es⟩ := List.getElem?_eq_some_iff.mp hi
    refine ⟨_, rfl, _, rfl, z, _, rfl, .inl (SqL.of e1), (i : Int), (xs.length : Int), rfl, ⟨by omega, by omega⟩, ?_⟩
    have hix : i < xs.length := by omega
    obtain ⟨hi3, ht⟩ := TRows.get r1 (List.getElem?_eq_getElem hix)
    rw [List.getElem_map, es] at ht
    exact ⟨_, rfl, _, rfl, z, xs, _, xs[i], rfl, rfl, SqL.of e1, atI_nat (List.getElem?_eq_getElem hix), q _ _ s1 ht⟩
theorem kat (T : Tx K mg A) : ∃ mv : List Value, KBn K A.d_closed_at ["many", "count", "index", "arms"] 3 ["arms"] (fun us ws => us ++ (mv ++ ws)) (fun vs zs => vs ++ zs) := by
  obtain ⟨mv, h⟩ := T.F_closed_at.kbinds0 (ps := ["many", "count", "index", "arms"]) 3 ["arms"] [] (fun us mv ws => us ++ (mv ++ ws)) (by simp) (by simp) (fun r1 r2 r3 => r1.append (r2.append r3))
    (fun D doc pm an cdv ct us mv ws h1 h2 h3 => by
      match us, mv, ws, h1, h2, h3 with
      | [a, b, d], [], [c], _, _, _ => rfl)
  exact ⟨mv, h⟩
/-- a closed set, ascending -/
structure CSet (n w : Nat) (s : List Nat) : Prop where
  up : ∀ p ∈ s, okUp w p s = true ∧ p < n
  asc : s.Pairwise (· < ·)
  len : s.length ≤ 12
theorem tC_set {n w c : Nat} (h : Dom n w c) {s : List Nat} (hs : s ∈ tC n w c) : CSet n w s ∧ s.length = c := by
  obtain ⟨a, b, d⟩ := (okC_parts h).2.2.2.2 s hs
  have hn := DomT.n12 ⟨h.1, h.2.1⟩
  exact ⟨⟨a, b, by have := h.2.2; omega⟩, d⟩
end
end Tw

set_option Elab.async false
set_option linter.all false
set_option maxRecDepth 100000
set_option maxHeartbeats 2000000
namespace Tw
open PySem PySem.Spec PyProof.Rows L2
section
variable {P : Program} {w : World} {K : PySem.W.Frag} {mg : Str → Option Value} {base : Heap} {A : Ad}
/-! things of other kinds -/
def NoTup (H : Hp) (x : V) : Prop := x = .non ∨ (∃ i, x = .int i) ∨ (∃ s, x = .str s) ∨ (∃ (a : Addr) (xs : List V), x = .ref a ∧ H a = some (.lst xs)) ∨ (∃ (a : Addr) (kvs : List (Key × V)), x = .ref a ∧ H a = some (.dK kvs))
theorem NoTup.same {H H' : Hp} {x : V} (h : NoTup H x) (s : Same H H') : NoTup H' x := by
  rcases h with h | h | h | ⟨a, xs, e, h⟩ | ⟨a, xs, e, h⟩
  · exact .inl h
  · exact .inr (.inl h)
  · exact .inr (.inr (.inl h))
  · exact .inr (.inr (.inr (.inl ⟨a, xs, e, s _ _ h⟩)))
  · exact .inr (.inr (.inr (.inr ⟨a, xs, e, s _ _ h⟩)))
theorem NoTup.ty {H : Hp} {x : V} (h : NoTup H x) : ∃ t, TyX K H x (.type t) ∧ kitB t "tuple" = some false := by
  rcases h with rfl | ⟨i, rfl⟩ | ⟨z, rfl⟩ | ⟨a, xs, rfl, h⟩ | ⟨a, xs, rfl, h⟩
  · exact ⟨"NoneType", .base .non, by decide +kernel⟩
  · exact ⟨"int", .base (.int i), by decide +kernel⟩
  · exact ⟨"str", .base (.str z), by decide +kernel⟩
  · exact ⟨"list", .base (.lst h), by decide +kernel⟩
  · exact ⟨"dict", .base (.dK h), by decide +kernel⟩
def Odd (K : PySem.W.Frag) (H : Hp) (x : V) : Prop := x = .non ∨ (∃ b, x = .bl b) ∨ (∃ s, x = .str s) ∨ (∃ (a : Addr) (xs : List V), x = .ref a ∧ SqT K H a xs)
theorem Odd.same {H H' : Hp} {x : V} (h : Odd K H x) (s : Same H H') : Odd K H' x := by
  rcases h with h | h | h | ⟨a, xs, e, h⟩
  · exact .inl h
  · exact .inr (.inl h)
  · exact .inr (.inr (.inl h))
  · exact .inr (.inr (.inr ⟨a, xs, e, SqT.sm s h⟩))
theorem Odd.ty {H : Hp} {x : V} (h : Odd K H x) : ∃ t b1 b2, TyX K H x (.type t) ∧ kitB t "int" = some b1 ∧ kitB t "bool" = some b2 ∧ (b1 && !b2) = false := by
  rcases h with rfl | ⟨b, rfl⟩ | ⟨z, rfl⟩ | ⟨a, xs, rfl, h⟩
  · exact ⟨"NoneType", false, false, .base .non, by decide +kernel, by decide +kernel, rfl⟩
  · exact ⟨"bool", true, true, .base (.bl b), by decide +kernel, by decide +kernel, rfl⟩
  · exact ⟨"str", false, false, .base (.str z), by decide +kernel, by decide +kernel, rfl⟩
  · exact ⟨"tuple", false, false, sqT_ty h, by decide +kernel, by decide +kernel, rfl⟩
def Itm (K : PySem.W.Frag) (n : Nat) (H : Hp) (x : V) (b : Bool) : Prop := (∃ i, x = .int i ∧ b = decide (0 ≤ i ∧ i ≤ (n : Int) - 1)) ∨ (Odd K H x ∧ b = false)
theorem itms_same {n : Nat} {H H' : Hp} (s : Same H H') : ∀ {xs : List V} {bs : List Bool}, Paired (Itm K n H) xs bs → Paired (Itm K n H') xs bs
  | _, _, .nil => .nil
  | _, _, .cons h p => .cons (h.imp id fun z => ⟨z.1.same s, z.2⟩) (itms_same s p)
theorem itms_at {n : Nat} {H : Hp} : ∀ {xs : List V} {bs : List Bool} {i : Nat} {x : V}, Paired (Itm K n H) xs bs → xs[i]? = some x → ∃ hi : i < bs.length, Itm K n H x bs[i]
  | _, _, 0, _, .cons a _, e => ⟨Nat.succ_pos _, by rw [← Option.some.inj e]; exact a⟩
  | _, _, i + 1, _, .cons _ b, e => by
    obtain ⟨hi, r⟩ := itms_at b (by simpa using e)
    exact ⟨Nat.succ_lt_succ hi, r⟩
theorem ints_eqvL (a b : List Int) : PyData.eqv (.list (a.map PyData.int)) (.list (b.map PyData.int)) = decide (a = b) := by
  rw [← ints_all]
  simp [PyData.eqv]
theorem asc_same (l : List Nat) : decide (natB l = ascL (natB l)) = decide (l.Pairwise (· < ·)) := by
  refine decide_eq_decide.mpr ⟨fun h => ?_, fun h => ?_⟩
  · have := ascL_asc (natB l)
    rw [← h] at this
    unfold natB at this
    rw [List.pairwise_map] at this
    exact this.imp fun h => Int.ofNat_lt.mp h
  · refine asc_eq ?_ (ascL_asc _) fun x => ascL_mem.symm
    unfold natB
    rw [List.pairwise_map]
    exact h.imp fun h => Int.ofNat_lt.mpr h
theorem bls_snoc (bs : List Bool) {j : Nat} (h : j < bs.length) : (bs.take (j + 1)).map V.bl = (bs.take j).map V.bl ++ [V.bl bs[j]] := by
  rw [← List.take_append_getElem h, List.map_append]
  rfl
/-- a thing that is no set of places; or one that may be one -/
def NoSet (K : PySem.W.Frag) (n : Nat) (H : Hp) (x : V) : Prop := NoTup H x ∨ ∃ (a : Addr) (xs : List V) (bs : List Bool), x = .ref a ∧ SqT K H a xs ∧ xs.length ≤ 12 ∧ Paired (Itm K n H) xs bs ∧ false ∈ bs
theorem NoSet.same {n : Nat} {H H' : Hp} {x : V} (h : NoSet K n H x) (s : Same H H') : NoSet K n H' x := by
  rcases h with h | ⟨a, xs, bs, e, h1, h2, h3, h4⟩
  · exact .inl (h.same s)
  · exact .inr ⟨a, xs, bs, e, SqT.sm s h1, h2, itms_same s h3, h4⟩
def spIsp (K : PySem.W.Frag) : Sp := fun vs H Q _ => ∃ (x : V) (n : Nat), vs = [x, .int n] ∧ ((NoSet K n H x ∧ ∀ H' : Hp, Same H H' → Q (.bl false) H') ∨
  ∃ (a : Addr) (l : List Nat), x = .ref a ∧ SqT K H a (nv l) ∧ l.length ≤ 12 ∧ (∀ p ∈ l, p < n) ∧ ∀ H' : Hp, Same H H' → Q (.bl (decide (l.Pairwise (· < ·)))) H')
theorem ok_isp (T : Tx K mg A) : FnOk P w K mg base CX0 3 A.f_is_set_of_places A.d_is_set_of_places ["thing", "many"] (spIsp K) := by
  refine T.F_is_set_of_places.ok sc_is_set_of_places (fun vs H Q E h => ?_) (fun cdv B outer s H vs Q E hr h => ?_)
  · obtain ⟨x, n, rfl, _⟩ := h
    rfl
  · obtain ⟨x, n, rfl, h⟩ := h
    have nd := sc_is_set_of_places.nd
    have hu := hr.units
    refine ⟨_, (pss_cons (ps_if (PW.pt (pw_or (pt_not (pt_val (pe_callB call_isi (by rfl) T.g_isinstance (by decide +kernel) (pa_cons (pv 0) (pa_cons (pe_bltn (v := .ty "tuple") (by rfl) T.g_tuple (by decide +kernel) rfl) pa_nil))))) (pw_or1 (pt_not (pt_val (pe_callB (cr_all rfl) (by rfl) T.g_all (by decide +kernel) (pa_cons (pe_lc (own := [("item", 2)]) (g := gName 2) (tt := tYes) rfl nd (pi_tup (pv 0)) (blkOk_by (own := [("item", 2)]) (N := ["thing", "many", "item"]) (sc := (defScope s_is_set_of_places)) (by decide +kernel)) (fun _ _ _ _ _ => pg_name (i := 2) nd rfl (Or.inl rfl)) (fun _ _ _ _ _ => pts_nil) (fun _ _ _ _ _ => (pe_call (ok_ii T) (hr.mono (by decide)) (by rfl) T.m_is_integer_from T.F_is_integer_from.kp (b_ii T) .nil pass0 (pa_cons (pv 2) (pa_cons pe_int (pa_cons (pe_op op_sub (pv 1) pe_int) pa_nil)))))) pa_nil))))))) (pss_one (ps_ret pe_bl)) pss_nil)
      (pss_one (ps_ret (pe_cmpR (op_eqD hu) (pe_callTy call_list_of (by rfl) T.g_list (by decide +kernel) (pa_cons (pv 0) pa_nil)) (pe_callB (cr_sortedSet rfl) (by rfl) T.g_sorted (by decide +kernel) (pa_cons (pe_callTy (cr_setTI rfl) (by rfl) T.g_set (by decide +kernel) (pa_cons (pv 0) pa_nil)) pa_nil)) (nomark _))))), ?_⟩
    rcases h with ⟨h | ⟨a, xs, bs, rfl, ha, h12, hp, hf⟩, q⟩ | ⟨a, l, rfl, ha, h12, hlt, q⟩
    · obtain ⟨t, ty, k⟩ := NoTup.ty (K := K) h
      exact ⟨_, rfl, _, _, .type t, .type "tuple", false, rfl, .ty "tuple", ty, kit_ty k, false, rfl, iteT (iteT (q _ (Same.refl _)))⟩
    · refine ⟨_, rfl, _, _, .type "tuple", .type "tuple", true, rfl, .ty "tuple", sqT_ty ha, kit_ty (by decide +kernel), true, rfl, iteF ?_⟩
      have hbl : xs.length = bs.length := Paired.length hp
      refine ⟨_, rfl, a, rfl, ⟨_, ha⟩, fun D nD => ?_⟩
      refine lc_it (walk_tup (xs := xs)) (fun i H' => Acc H D ((bs.take i).map V.bl) H') (Acc.start nD) (fun i H' _ ac => SqT.sm ac.s ha) ?_ ?_
      · rintro j y H2o H2 hj ac ⟨rfl, hy⟩
        obtain ⟨hj2, it⟩ := itms_at (itms_same ac.s hp) hy
        refine ⟨rfl, iteT (B := Acc H D ((bs.take (j + 1)).map V.bl) H2) ?_⟩
        have fin : ∃ acc, H2 D = some (.lst acc) ∧ acc.length < sizeLine ∧ Acc H D ((bs.take (j + 1)).map V.bl) (upd H2 D (.lst (acc ++ [V.bl bs[j]]))) := by
          refine ⟨_, ac.a, by rw [List.length_map, List.length_take, sizeLine_eq]; omega, ?_⟩
          rw [bls_snoc bs hj2]
          exact ac.push
        refine ⟨_, rfl, _, rfl, _, _, rfl, rfl, _, _, _, rfl, ?_⟩
        rcases it with ⟨i, rfl, e⟩ | ⟨od, e⟩
        · refine .inl ⟨i, rfl, ?_⟩
          rw [← e]
          exact fin
        · obtain ⟨t, b1, b2, ty, k1, k2, k3⟩ := od.ty
          refine .inr ⟨t, b1, b2, ty, k1, k2, k3, ?_⟩
          rw [e] at fin
          exact fin
      · intro H2 ac
        rw [hbl, List.take_length] at ac
        refine ⟨D, bs, rfl, SqL.of ac.a, _, rfl, ?_⟩
        rw [show bs.all id = false from by
          rw [List.all_eq_false]
          exact ⟨false, hf, Bool.false_ne_true⟩]
        exact iteT (q _ ac.s)
    · refine ⟨_, rfl, _, _, .type "tuple", .type "tuple", true, rfl, .ty "tuple", sqT_ty ha, kit_ty (by decide +kernel), true, rfl, iteF ?_⟩
      refine ⟨_, rfl, a, rfl, ⟨_, ha⟩, fun D nD => ?_⟩
      refine lc_it (walk_tup (xs := nv l)) (fun i H' => Acc H D (List.replicate i (V.bl true)) H') (Acc.start nD) (fun i H' _ ac => SqT.sm ac.s ha) ?_ ?_
      · rintro j y H2o H2 hj ac ⟨rfl, hy⟩
        obtain ⟨hj2, rfl⟩ := nv_at hy
        have hb := hlt _ (List.getElem_mem hj2)
        refine ⟨rfl, iteT (B := Acc H D (List.replicate (j + 1) (V.bl true)) H2) ?_⟩
        refine ⟨_, rfl, _, rfl, _, _, rfl, rfl, _, _, _, rfl, Or.inl ⟨_, rfl, ?_⟩⟩
        rw [decide_eq_true (show (0 : Int) ≤ (l[j] : Nat) ∧ ((l[j] : Nat) : Int) ≤ (n : Int) - 1 by omega)]
        refine ⟨_, ac.a, by rw [List.length_replicate, sizeLine_eq]; omega, ?_⟩
        rw [show List.replicate (j + 1) (V.bl true) = List.replicate j (V.bl true) ++ [V.bl true] from List.replicate_succ']
        exact ac.push
      · intro H2 ac
        rw [nv_len] at ac
        refine ⟨D, List.replicate l.length true, rfl, SqL.of (by rw [ac.a, List.map_replicate]), _, rfl, ?_⟩
        rw [repl_all]
        refine iteF ?_
        have ha2 := SqT.sm ac.s ha
        refine ⟨_, rfl, a, _, rfl, .inr ha2, fun m nm => ?_⟩
        have s3 := Same.up (o := .lst (nv l)) nm
        have e3 : upd H2 m (.lst (nv l)) m = some (.lst (nv l)) := upd_same
        have ha3 := SqT.sm s3 ha2
        have s13 := ac.s.trans s3
        generalize upd H2 m (.lst (nv l)) = G3 at e3 ha3 s13
        refine ⟨_, rfl, a, natB l, rfl, ha3, by rw [natB_len]; omega, fun p k hk np => ?_⟩
        have s4 := Same.up (o := SetO w p (fun j => decide (j ∈ natB l)) k) np
        refine ⟨p, _, k, rfl, upd_same, by rw [natB_len] at hk; omega, fun ns p2 hasc hmem hlen np2 => ?_⟩
        have s5 := s4.trans (Same.up (o := .lst (ns.map V.int)) np2)
        obtain rfl : ns = ascL (natB l) := asc_eq hasc (ascL_asc _) fun x => by rw [hmem, decide_eq_true_eq, ascL_mem]
        refine ⟨.list ((natB l).map PyData.int), .list ((ascL (natB l)).map PyData.int), .lst (SqL.of (s5 _ _ e3)) (ints_dp _ _ _), .lst (SqL.of upd_same) (ints_dp _ _ _), shaped_ints _, shaped_ints _, ?_⟩
        rw [ints_eqvL, asc_same]
        exact q _ (s13.trans s5)
theorem b_isp (T : Tx K mg A) : L2.Binds K A.d_is_set_of_places ["thing", "many"] [] := T.F_is_set_of_places.binds fun _ _ _ _ _ _ us hl => match us, hl with | [_, _], _ => rfl
def spIcl (K : PySem.W.Frag) : Sp := fun vs H Q _ => ∃ (n w : Nat) (x : V), vs = [.int n, x, .int w] ∧ n ≤ 12 ∧ (1 ≤ w ∧ w ≤ 4) ∧ ((NoSet K n H x ∧ ∀ H' : Hp, Same H H' → Q (.bl false) H') ∨
  ∃ (a : Addr) (l : List Nat), x = .ref a ∧ SqT K H a (nv l) ∧ l.length ≤ 12 ∧ (∀ p ∈ l, p < n) ∧ ∀ H' : Hp, Same H H' → Q (.bl (decide (l.Pairwise (· < ·)) && clB w l)) H')
theorem ok_icl (T : Tx K mg A) : FnOk P w K mg base CX0 6 A.f_is_closed A.d_is_closed ["many", "thing", "arms"] (spIcl K) := by
  obtain ⟨mi, ki⟩ := kb_init T
  refine T.F_is_closed.ok sc_is_closed (fun vs H Q E h => ?_) (fun cdv B outer s H vs Q E hr h => ?_)
  · obtain ⟨n, w, x, rfl, _⟩ := h
    rfl
  · obtain ⟨n, w, z, rfl, hn12, hw, h⟩ := h
    have nd := sc_is_closed.nd
    refine ⟨_, PSs.nox (pss_cons (ps_set (i := 3) nd rfl (Or.inr rfl) (pe_makeK T.mkC (ok_init T) (hr.mono (by decide)) (by rfl) T.mC ki pass0 (pa_cons (pv 0) pa_nil) (pk_cons (pv 2) pk_nil)))
      (pss_cons (ps_if (pt_not (pt_val (pe_call (ok_isp T) (hr.mono (by decide)) (by rfl) T.m_is_set_of_places T.F_is_set_of_places.kp (b_isp T) .nil pass0 (pa_cons (pv 1) (pa_cons (pv 0) pa_nil))))) (pss_one (ps_ret pe_bl)) pss_nil)
      (pss_one (ps_ret (pe_callB (cr_all rfl) (by rfl) T.g_all (by decide +kernel) (pa_cons (pe_lc (own := [("place", 4)]) (g := gName 4) (tt := tYes) rfl nd (pi_tup (pv 1)) (blkOk_by (own := [("place", 4)]) (N := ["many", "thing", "arms", "tree", "place"]) (sc := (defScope s_is_closed)) (by decide +kernel)) (fun _ _ _ _ _ => pg_name (i := 4) nd rfl (Or.inl rfl)) (fun _ _ _ _ _ => pts_nil) (fun _ _ _ _ _ => (pe_or (pe_cmpR op_eq (pv 4) pe_int (nomark _)) (pe_one (pe_cmpR (r := L2.rIn K false) op_in_seq (pe_meth (pv 3) T.cT T.M_t_parent (ok_par T) (hr.mono (by decide)) (b_par T) .nil pass0 (pa_cons (pv 4) pa_nil)) (pv 1) (by rfl)))))) pa_nil)))))), ?_⟩
    refine ⟨_, rfl, _, rfl, rfl, rfl, fun x dx0 nx ndx nex => ⟨x, dx0, n, w, rfl, hn12, hw, upd_same, fun H1 k1 t1 => ?_⟩⟩
    have s1 := new_same nx ndx k1
    rcases h with ⟨h, q⟩ | ⟨a, l, rfl, ha, h12, hlt, q⟩
    · exact ⟨rfl, _, rfl, _, rfl, z, n, rfl, .inl ⟨h.same s1, fun H2 s2 => ⟨_, rfl, iteT (q _ (s1.trans s2))⟩⟩⟩
    refine ⟨rfl, _, rfl, _, rfl, _, n, rfl, .inr ⟨a, l, rfl, SqT.sm s1 ha, h12, hlt, fun H2 s2 => ⟨_, rfl, ?_⟩⟩⟩
    have s12 := s1.trans s2
    by_cases hasc : l.Pairwise (· < ·)
    · rw [decide_eq_true hasc]
      refine iteF ?_
      rw [decide_eq_true hasc, Bool.true_and] at q
      have t2 := t1.same s2
      have ha2 := SqT.sm s12 ha
      obtain ⟨bs, eb⟩ : ∃ bs, bs = l.map fun p => okUp w p l := ⟨_, rfl⟩
      have hbl : bs.length = l.length := by rw [eb, List.length_map]
      refine ⟨_, rfl, a, rfl, ⟨_, ha2⟩, fun D nD => ?_⟩
      refine lc_it (walk_tup (xs := nv l)) (fun i H' => Acc H2 D ((bs.take i).map V.bl) H') (Acc.start nD) (fun i H' _ ac => SqT.sm ac.s ha2) ?_ ?_
      · rintro j y H3o H3 hj ac ⟨rfl, hy⟩
        obtain ⟨hj2, rfl⟩ := nv_at hy
        have hb := hlt _ (List.getElem_mem hj2)
        have hj3 : j < bs.length := by omega
        have fin : ∃ acc, H3 D = some (.lst acc) ∧ acc.length < sizeLine ∧ Acc H2 D ((bs.take (j + 1)).map V.bl) (upd H3 D (.lst (acc ++ [V.bl bs[j]]))) := by
          refine ⟨_, ac.a, by rw [List.length_map, List.length_take, sizeLine_eq]; omega, ?_⟩
          rw [bls_snoc bs hj3]
          exact ac.push
        have ej : bs[j] = okUp w l[j] l := by
          subst eb
          rw [List.getElem_map]
        refine ⟨rfl, iteT (B := Acc H2 D ((bs.take (j + 1)).map V.bl) H3) ?_⟩
        refine ⟨_, rfl, rfl, _, rfl, ?_⟩
        by_cases h0 : l[j] = 0
        · rw [decide_eq_true (show V.int (l[j] : Nat) = V.int 0 by rw [h0]; rfl)]
          rw [ej, okUp, decide_eq_true h0, Bool.true_or] at fin
          exact iteT fin
        · rw [decide_eq_false (show ¬ V.int (l[j] : Nat) = V.int 0 by intro z; injection z with z; omega)]
          refine iteF ?_
          have t3 := t2.same ac.s
          obtain ⟨dx, l1, h1, h2⟩ := id t3.ob
          have noP : (tf n w l1).lookup ("parent" : Str) = none := tf_no _ _ _ (by decide +kernel) (by decide +kernel) (by decide +kernel)
          refine ⟨_, rfl, x, dx, _, rfl, h1, noP, _, rfl, x, n, w, l[j], rfl, t3, hb, ?_⟩
          unfold parV
          rw [if_neg h0]
          refine ⟨_, rfl, a, _, rfl, .inr (SqT.sm ac.s ha2), rfl, nv_flat _, ?_⟩
          rw [if_neg Bool.false_ne_true, inV_nv]
          rw [ej, okUp, decide_eq_false h0, Bool.false_or] at fin
          exact fin
      · intro H3 ac
        rw [nv_len, ← hbl, List.take_length] at ac
        refine ⟨D, bs, rfl, SqL.of ac.a, ?_⟩
        rw [show bs.all id = clB w l from by
          rw [eb]
          unfold clB
          rw [List.all_map]
          rfl]
        exact q _ (s12.trans ac.s)
    · rw [decide_eq_false hasc]
      rw [decide_eq_false hasc, Bool.false_and] at q
      exact iteT (q _ s12)
theorem kic (T : Tx K mg A) : ∃ mv : List Value, KBn K A.d_is_closed ["many", "thing", "arms"] 2 ["arms"] (fun us ws => us ++ (mv ++ ws)) (fun vs zs => vs ++ zs) := by
  obtain ⟨mv, h⟩ := T.F_is_closed.kbinds0 (ps := ["many", "thing", "arms"]) 2 ["arms"] [] (fun us mv ws => us ++ (mv ++ ws)) (by simp) (by simp) (fun r1 r2 r3 => r1.append (r2.append r3))
    (fun D doc pm an cdv ct us mv ws h1 h2 h3 => by
      match us, mv, ws, h1, h2, h3 with
      | [a, b], [], [c], _, _, _ => rfl)
  exact ⟨mv, h⟩
theorem cset_cl {n w : Nat} {s : List Nat} (h : CSet n w s) : (decide (s.Pairwise (· < ·)) && clB w s) = true := by
  rw [decide_eq_true h.asc, Bool.true_and]
  exact List.all_eq_true.mpr fun p hp => (h.up p hp).1
def spCcl (K : PySem.W.Frag) : Sp := fun vs H Q _ => ∃ (n a w : Nat) (s : List Nat), vs = [.int n, .ref a, .int w] ∧ n ≤ 12 ∧ (1 ≤ w ∧ w ≤ 4) ∧ SqT K H a (nv s) ∧ CSet n w s ∧ ∀ H' : Hp, Same H H' → Q .non H'
theorem ok_ccl (T : Tx K mg A) : FnOk P w K mg base CX0 7 A.f_check_closed A.d_check_closed ["many", "closed", "arms"] (spCcl K) := by
  obtain ⟨mc, kic⟩ := kic T
  refine T.F_check_closed.ok sc_check_closed (fun vs H Q E h => ?_) (fun cdv B outer s H vs Q E hr h => ?_)
  · obtain ⟨n, a, w, l, rfl, _⟩ := h
    rfl
  · obtain ⟨n, a, w, l, rfl, hn12, hw, ha, hc, q⟩ := h
    refine ⟨_, (pss_one (ps_if (pt_not (pt_val (pe_callN (ok_icl T) (hr.mono (by decide)) (by rfl) T.m_is_closed T.F_is_closed.kp kic pass0 (pa_cons (pv 0) (pa_cons (pv 1) pa_nil)) (pk_cons (pv 2) pk_nil)))) (pss_one ps_never) pss_nil)), ?_⟩
    refine ⟨_, rfl, _, rfl, _, rfl, rfl, rfl, n, w, .ref a, rfl, hn12, hw, .inr ⟨a, l, rfl, ha, hc.len, fun p hp => (hc.up p hp).2, fun H1 s1 => ⟨_, rfl, ?_⟩⟩⟩
    rw [cset_cl hc]
    exact iteF (q _ s1)

theorem b_ccl (T : Tx K mg A) : L2.Binds K A.d_check_closed ["many", "closed", "arms"] [] := T.F_check_closed.binds fun _ _ _ _ _ _ us hl => match us, hl with | [_, _, _], _ => rfl
def spCix (K : PySem.W.Frag) : Sp := fun vs H Q _ => ∃ (n c a w i : Nat) (s : List Nat), vs = [.int n, .ref a, .int w] ∧ Dom n w c ∧ SqT K H a (nv s) ∧ (tC n w c)[i]? = some s ∧ ∀ H' : Hp, Same H H' → Q (.int (i : Nat)) H'
theorem ok_cix (T : Tx K mg A) : FnOk P w K mg base CX0 8 A.f_closed_index A.d_closed_index ["many", "closed", "arms"] (spCix K) := by
  obtain ⟨mc, kcs⟩ := kcs T
  refine T.F_closed_index.ok sc_closed_index (fun vs H Q E h => ?_) (fun cdv B outer s H vs Q E hr h => ?_)
  · obtain ⟨n, c, a, w, i, l, rfl, _⟩ := h
    rfl
  · obtain ⟨n, c, a, w, i, l, rfl, hdom, ha, hi, q⟩ := h
    have nd := sc_closed_index.nd
    have hu2 : (B.deeper (envOfC "closed_index" (defScope s_closed_index) s.heap.objs.size A.f_closed_index cdv)).units + 65 < cLine := by have := hr.un; omega
    obtain ⟨hi2, es⟩ := List.getElem?_eq_some_iff.mp hi
    obtain ⟨hc, hlen⟩ := tC_set hdom (show l ∈ tC n w c by rw [← es]; exact List.getElem_mem hi2)
    have hn12 := DomT.n12 ⟨hdom.1, hdom.2.1⟩
    refine ⟨_, PSs.nox (pss_cons (ps_expr (pe_call (ok_ccl T) (hr.mono (by decide)) (by rfl) T.m_check_closed T.F_check_closed.kp (b_ccl T) .nil pass0 (pa_cons (pv 0) (pa_cons (pv 1) (pa_cons (pv 2) pa_nil)))))
      (pss_one (ps_ret (pe_bm PySem.F.plainAttrs_list PySem.F.slot_list_index PySem.F.type_list_index (mt_indexD hu2) (pe_callN (ok_cs T) (hr.mono (by decide)) (by rfl) T.m_closed_sets T.F_closed_sets.kp kcs pass0 (pa_cons (pv 0) (pa_cons (pe_callB call_len_seq (by rfl) T.g_len PySem.boot_len (pa_cons (pv 1) pa_nil)) pa_nil)) (pk_cons (pv 2) pk_nil)) (pa_cons (pv 1) pa_nil))))), ?_⟩
    refine ⟨_, rfl, _, rfl, _, rfl, n, a, w, l, rfl, hn12, hdom.2.1, ha, hc, fun H1 s1 => ?_⟩
    have ha1 := SqT.sm s1 ha
    refine ⟨_, rfl, _, rfl, a, _, rfl, .inr ha1, _, rfl, rfl, rfl, n, c, w, by rw [nv_len, hlen]; rfl, hdom, fun H2 z xs s2 n2 e2 r2 => ?_⟩
    have ha2 := SqT.sm s2 ha1
    refine ⟨.inl ⟨rfl, _, SqL.of e2⟩, _, rfl, z, .ref a, rowD (natB l), ((tC n w c).map natB).map rowD, i, rowD (natB l), rfl, rfl, .lst (SqL.of e2) (tupI_dp r2), .tup ha2 (ints_dp K _ _), rowsD_shaped _, ints_shT _, ?_, ?_, fun m y hm hy => ?_, q _ (s1.trans s2)⟩
    · rw [List.getElem?_map, List.getElem?_map, hi]
      rfl
    · rw [rowD_eqv, decide_eq_true rfl]
    · rw [List.getElem?_map, List.getElem?_map] at hy
      have hml : m < (tC n w c).length := by omega
      rw [List.getElem?_eq_getElem hml] at hy
      obtain rfl := Option.some.inj hy
      have hlt := List.pairwise_iff_getElem.mp (okC_parts hdom).2.1 m i hml hi2 hm
      rw [es] at hlt
      rw [rowD_eqv, decide_eq_false fun z => by rw [z] at hlt; exact List.lt_irrefl _ hlt]
theorem kix (T : Tx K mg A) : ∃ mv : List Value, KBn K A.d_closed_index ["many", "closed", "arms"] 2 ["arms"] (fun us ws => us ++ (mv ++ ws)) (fun vs zs => vs ++ zs) := by
  obtain ⟨mv, h⟩ := T.F_closed_index.kbinds0 (ps := ["many", "closed", "arms"]) 2 ["arms"] [] (fun us mv ws => us ++ (mv ++ ws)) (by simp) (by simp) (fun r1 r2 r3 => r1.append (r2.append r3))
    (fun D doc pm an cdv ct us mv ws h1 h2 h3 => by
      match us, mv, ws, h1, h2, h3 with
      | [a, b], [], [c], _, _, _ => rfl)
  exact ⟨mv, h⟩
end
end Tw

set_option Elab.async false
set_option linter.all false
set_option maxRecDepth 100000
set_option maxHeartbeats 2000000
namespace Tw
open PySem PySem.Spec PyProof.Rows L2
section
variable {P : Program} {w : World} {K : PySem.W.Frag} {mg : Str → Option Value} {base : Heap} {A : Ad}
/-! heap_with, and the law's own defs -/
theorem oth_le (n : Nat) (s : List Nat) : (othL n s).length ≤ n := Nat.le_trans (List.length_filter_le _ _) (by rw [List.length_range]; exact Nat.le_refl _)
def spHw (K : PySem.W.Frag) : Sp := fun vs H Q _ => ∃ (n a w : Nat) (s : List Nat), vs = [.int n, .ref a, .int w] ∧ Dp7 n w ∧ SqT K H a (nv s) ∧ CSet n w s ∧ s ∈ evL n w ∧
  ∀ (H' : Hp) (t : Addr), Same H H' → H' t = some (.tup (nv (hwL n s))) → Q (.ref t) H'
theorem ok_hw (T : Tx K mg A) : FnOk P w K mg base CX0 8 A.f_heap_with A.d_heap_with ["many", "closed", "arms"] (spHw K) := by
  obtain ⟨mi, ki⟩ := kb_init T
  refine T.F_heap_with.ok sc_heap_with (fun vs H Q E h => ?_) (fun cdv B outer s H vs Q E hr h => ?_)
  · obtain ⟨n, a, w, s, rfl, _⟩ := h
    rfl
  · obtain ⟨n, a, w, l, rfl, d7, ha, hc, hm, q⟩ := h
    have nd := sc_heap_with.nd
    have h7 := d7.n7
    have hk := d7.hw hm
    have hll := hc.len
    have hol := oth_le n l
    refine ⟨_, PSs.nox (pss_cons (ps_expr (pe_call (ok_ccl T) (hr.mono (by decide)) (by rfl) T.m_check_closed T.F_check_closed.kp (b_ccl T) .nil pass0 (pa_cons (pv 0) (pa_cons (pv 1) (pa_cons (pv 2) pa_nil)))))
      (C8.pss_cut (ps_setLc (i := 3) (own := [("place", 4)]) (g := gName 4) rfl nd rfl rfl (sw_true rfl rfl rfl (by decide +kernel)) (pi_own T.D_t___iter__ (ok_iter T) (hr.mono (by decide)) (b_iter T) (pe_makeK T.mkC (ok_init T) (hr.mono (by decide)) (by rfl) T.mC ki pass0 (pa_cons (pv 0) pa_nil) (pk_cons (pv 2) pk_nil))) (blkOk_by (own := [("place", 4)]) (N := ["many", "closed", "arms", "others", "place"]) (sc := (defScope s_heap_with)) (by decide +kernel)) (fun _ _ _ _ _ => pg_name (i := 4) nd rfl (Or.inl rfl)) (fun _ _ _ _ _ => pts_one (pt_cmpR (r := L2.rIn K true) op_notIn_seq (pv 4) (pv 1) (by rfl))) (fun _ _ _ _ _ => (pv 4)))
      (pss_one (ps_ret (pe_call (ok_rbo T) (hr.mono (by decide)) (by rfl) T.m_row_by_order T.F_row_by_order.kp (b_rbo T) .nil pass0 (pa_cons (pe_op op_cat (pe_callTy call_list_of (by rfl) T.g_list (by decide +kernel) (pa_cons (pv 1) pa_nil)) (pv 3)) pa_nil)))))), ?_⟩
    refine ⟨_, rfl, _, rfl, _, rfl, n, a, w, l, rfl, by omega, d7.w4, ha, hc, fun H1 s1 => ?_⟩
    have ha1 := SqT.sm s1 ha
    refine ⟨fun σ' H' => ∃ q3 : Addr, σ' = [some (.int n), some (.ref a), some (.int w), some (.ref q3), none] ∧ Same H H' ∧ H' q3 = some (.lst (nv (othL n l))), ?_, ?_⟩
    · refine ⟨_, rfl, _, rfl, rfl, rfl, fun x dx0 nx ndx nex => ⟨x, dx0, n, w, rfl, by omega, d7.w4, upd_same, fun H2 k2 t2 => ?_⟩⟩
      have s2 := new_same nx ndx k2
      obtain ⟨dx, l2, h1, h2⟩ := id t2.ob
      refine ⟨rfl, x, dx, _, l2, _, rfl, h1, tf_pl _ _ _, SqT.of h2, fun D nD => ?_⟩
      refine lc_it (walk_tup (xs := pl n)) (fun i H' => Acc H2 D (nv ((List.range i).filter fun p => decide (p ∉ l))) H') (Acc.start nD) (fun i H' _ ac => SqT.of (ac.s _ _ h2)) ?_ ?_
      · rintro i y H3o H3 hi ac ⟨rfl, hy⟩
        obtain ⟨hi2, rfl⟩ := plAt hy
        have hfl : ((List.range i).filter fun p => decide (p ∉ l)).length ≤ 12 := Nat.le_trans (List.length_filter_le _ _) (by rw [List.length_range]; omega)
        refine ⟨rfl, _, rfl, _, rfl, a, _, rfl, .inr (SqT.sm (s2.trans ac.s) ha1), rfl, nv_flat _, _, rfl, ?_⟩
        rw [if_pos rfl, inV_nv, List.range_succ, List.filter_append]
        by_cases hin : i ∈ l
        · rw [decide_eq_true hin]
          refine iteF ?_
          rw [List.filter_cons_of_neg (by simpa using hin), List.filter_nil, List.append_nil]
          exact ac
        · rw [decide_eq_false hin]
          refine iteT ⟨_, rfl, _, ac.a, by rw [nv_len, sizeLine_eq]; omega, ?_⟩
          rw [List.filter_cons_of_pos (by simpa using hin), List.filter_nil, appN]
          exact ac.push
      · intro H3 ac
        rw [pl_len] at ac
        exact ⟨D, rfl, (s1.trans s2).trans ac.s, ac.a⟩
    rintro σ' H3 ⟨q3, rfl, s3, e3⟩
    refine ⟨_, rfl, a, _, rfl, .inr (SqT.sm s3 ha), fun m nm => ?_⟩
    have s4 := Same.up (o := .lst (nv l)) nm
    have em : upd H3 m (.lst (nv l)) m = some (.lst (nv l)) := upd_same
    have e3 := s4 _ _ e3
    generalize upd H3 m (.lst (nv l)) = G4 at s4 em e3
    refine ⟨_, rfl, m, q3, _, _, rfl, rfl, em, e3, by rw [nv_len, nv_len, sizeLine_eq]; omega, fun z nz => ?_⟩
    rw [nv_appL]
    exact ⟨z, l ++ othL n l, rfl, upd_same, by rw [hk.len]; omega, fun x hx => by rw [hk.len]; exact hk.lt x hx, fun H5 t s5 e5 => q _ t ((s3.trans s4).trans ((Same.up nz).trans s5)) e5⟩
theorem khw (T : Tx K mg A) : ∃ mv : List Value, KBn K A.d_heap_with ["many", "closed", "arms"] 2 ["arms"] (fun us ws => us ++ (mv ++ ws)) (fun vs zs => vs ++ zs) := by
  obtain ⟨mv, h⟩ := T.F_heap_with.kbinds0 (ps := ["many", "closed", "arms"]) 2 ["arms"] [] (fun us mv ws => us ++ (mv ++ ws)) (by simp) (by simp) (fun r1 r2 r3 => r1.append (r2.append r3))
    (fun D doc pm an cdv ct us mv ws h1 h2 h3 => by
      match us, mv, ws, h1, h2, h3 with
      | [a, b], [], [c], _, _, _ => rfl)
  exact ⟨mv, h⟩
def spLp : Sp := fun vs H Q _ => ∃ n : Nat, vs = [.int n] ∧ n ≤ 7 ∧ ∀ (H' : Hp) (q : Addr) (xs : List V), Same H H' → H q = none → H' q = some (.lst xs) → NRows H' xs (partsL n) → Q (.ref q) H'
theorem ok_lp (T : Tx K mg A) : FnOk P w K mg base CX0 1 A.f__law_parts A.d__law_parts ["many"] spLp := by
  refine T.F__law_parts.ok sc__law_parts (fun vs H Q E h => ?_) (fun cdv B outer s H vs Q E hr h => ?_)
  · obtain ⟨n, rfl, _⟩ := h
    rfl
  · obtain ⟨n, rfl, h7, q⟩ := h
    have nd := sc__law_parts.nd
    refine ⟨_, (pss_cons (ps_set (i := 1) nd rfl (Or.inl rfl) (pe_lst (pa_cons (pe_tup pa_nil) pa_nil)))
      (C8.pss_cut (ps_for PassesOwn.never rfl (pi_range1 rfl T.g_range (pa_cons (pv 0) pa_nil)) (pg_name (i := 2) nd rfl (Or.inr rfl)) (pss_one (ps_set (i := 1) nd rfl (Or.inl rfl) (pe_op op_cat (pv 1) (pe_lc (own := [("some", 3)]) (g := gName 3) (tt := tYes) rfl nd (pi_list (pv 1)) (blkOk_by (own := [("some", 3)]) (N := ["many", "found", "place", "some"]) (sc := (defScope s__law_parts)) (by decide +kernel)) (fun _ _ _ _ _ => pg_name (i := 3) nd rfl (Or.inl rfl)) (fun _ _ _ _ _ => pts_nil) (fun _ _ _ _ _ => (pe_op (r := rCatA K) op_catA (pv 3) (pe_tup (pa_cons (pv 2) pa_nil)))))))))
      (pss_one (ps_ret (pv 1))))), ?_⟩
    refine ⟨Nat.zero_le _, fun e ne => ⟨by show 1 ≤ sizeLine; decide, fun D nD => ?_⟩⟩
    have se := Same.up (o := .tup []) ne
    have s0 : Same H (upd (upd H e (.tup [])) D (.lst [V.ref e])) := se.trans (Same.up nD)
    have eD : upd (upd H e (.tup [])) D (.lst [V.ref e]) D = some (.lst [V.ref e]) := upd_same
    have rD : NRows (upd (upd H e (.tup [])) D (.lst [V.ref e])) [V.ref e] (partsL 0) := .cons ⟨e, rfl, (Same.up nD) _ _ upd_same⟩ .nil
    have nD0 := se.free nD
    generalize upd (upd H e (.tup [])) D (.lst [V.ref e]) = G at s0 eD rD
    refine ⟨fun σ' H' => ∃ (x2 : Option V) (q1 : Addr) (xs : List V), σ' = [some (.int n), some (.ref q1), x2, none] ∧ Same H H' ∧ H q1 = none ∧ H' q1 = some (.lst xs) ∧ NRows H' xs (partsL n), ?_, ?_⟩
    · refine ⟨_, rfl, _, rfl, by omega, by omega, ?_⟩
      rw [Int.toNat_natCast]
      refine for_it (walk_range (lo := 0) (n := n)) (fun i σ' H' => ∃ (x2 : Option V) (q1 : Addr) (xs : List V), σ' = [some (.int n), some (.ref q1), x2, none] ∧ Same H H' ∧ H q1 = none ∧ H' q1 = some (.lst xs) ∧ NRows H' xs (partsL i))
        ⟨none, D, _, rfl, s0, nD0, eD, rD⟩ (fun _ _ _ _ _ => trivial) ?_ ?_
      · rintro i y σ' H3o H3 hi ⟨x2, q1, xs, rfl, s3, n3, e3, r3⟩ ⟨rfl, ey⟩
        obtain rfl : y = V.int (i : Nat) := by
          rw [ey]
          show V.int (0 + (i : Int)) = _
          rw [Int.zero_add]
        obtain ⟨pa1, pa2⟩ := parts_le n (by omega) i (by omega) (by omega)
        have hxl : xs.length = (partsL i).length := by
          have := Paired.length r3
          rw [List.length_map] at this
          exact this
        refine ⟨_, rfl, _, rfl, q1, rfl, ⟨_, SqL.of e3⟩, fun D2 nD2 => ?_⟩
        refine lc_it (walk_list (xs := xs)) (fun m H' => AccR H3 D2 ((((partsL i).take m).map fun s => s ++ [i]).map natB) H') (AccR.start nD2) (fun m H' _ ac => SqL.of (ac.s _ _ e3)) ?_ ?_
        · rintro m y H4o H4 hm ac ⟨rfl, hy⟩
          obtain ⟨hm2, t, rfl, et⟩ := r3.get hy
          have hsl := of_decide_eq_true (List.all_eq_true.mp pa1 _ (List.getElem_mem hm2))
          have et4 := ac.s _ _ et
          refine ⟨rfl, iteT (B := AccR H3 D2 ((((partsL i).take (m + 1)).map fun s => s ++ [i]).map natB) H4) ?_⟩
          refine cat_elG rfl rfl et4 (by omega) fun c G2 sG ec => ?_
          obtain ⟨acc, a1, a2, a3⟩ := (ac.same sG).push (x := .ref c) (l := natB ((partsL i)[m] ++ [i])) ⟨c, rfl, ec⟩ (small1000 (by rw [List.length_map, List.length_map, List.length_take]; omega))
          refine ⟨acc, a1, a2, ?_⟩
          rw [← List.take_append_getElem hm2, List.map_append, List.map_append]
          exact a3
        · intro H4 ac
          rw [hxl, List.take_length] at ac
          obtain ⟨zs, ez, rz⟩ := ac.a
          have hzl : zs.length ≤ 128 := by
            have := Paired.length rz
            rw [List.length_map, List.length_map] at this
            omega
          refine ⟨q1, D2, _, _, rfl, rfl, ac.s _ _ e3, ez, by rw [sizeLine_eq]; omega, fun L nL => ?_⟩
          have sL := ac.s.trans (Same.up (o := .lst (xs ++ zs)) nL)
          exact ⟨_, L, _, rfl, s3.trans sL, s3.free (ac.s.free nL), upd_same, RowsAt.same (NRows.app (RowsAt.same r3 ac.s) rz) (Same.up nL)⟩
      · rintro σ' H3 ⟨x2, q1, xs, rfl, s3, n3, e3, r3⟩
        exact ⟨x2, q1, xs, rfl, s3, n3, e3, r3⟩
    · rintro σ' H3 ⟨x2, q1, xs, rfl, s3, n3, e3, r3⟩
      exact ⟨_, rfl, q H3 q1 xs s3 n3 e3 r3⟩
theorem b_lp (T : Tx K mg A) : L2.Binds K A.d__law_parts ["many"] [] := T.F__law_parts.binds fun _ _ _ _ _ _ us hl => match us, hl with | [_], _ => rfl
def spLc (K : PySem.W.Frag) : Sp := fun vs H Q _ => ∃ (n w : Nat), vs = [.int n, .int w] ∧ Dp7 n w ∧ ∀ (H' : Hp) (q : Addr) (xs : List V), Same H H' → H' q = some (.lst xs) → TRows K H' xs (evL n w) → Q (.ref q) H'
theorem ok_lc (T : Tx K mg A) : FnOk P w K mg base CX0 2 A.f__law_closed A.d__law_closed ["many", "wide"] (spLc K) := by
  refine T.F__law_closed.ok sc__law_closed (fun vs H Q E h => ?_) (fun cdv B outer s H vs Q E hr h => ?_)
  · obtain ⟨n, w, rfl, _⟩ := h
    rfl
  · obtain ⟨n, w, rfl, d7, q⟩ := h
    have nd := sc__law_closed.nd
    have hu2 : (B.deeper (envOfC "_law_closed" (defScope s__law_closed) s.heap.objs.size A.f__law_closed cdv)).units + 65 < cLine := by have := hr.un; omega
    have h7 := d7.n7
    have hw := d7.w4
    obtain ⟨ev1, ev2, ev3, ev4⟩ := d7.ev
    have hpl := (parts_le n (by omega) n (by omega) (Nat.le_refl _)).2
    refine ⟨_, PSs.nox (pss_cons (ps_set (i := 2) nd rfl (Or.inl rfl) (pe_lst pa_nil))
      (C8.pss_cut (ps_for PassesOwn.never rfl (pi_list (pe_call (ok_lp T) (hr.mono (by decide)) (by rfl) T.m__law_parts T.F__law_parts.kp (b_lp T) .nil pass0 (pa_cons (pv 0) pa_nil))) (pg_name (i := 3) nd rfl (Or.inr rfl)) (pss_one (ps_if (pt_val (pe_callB (cr_all rfl) (by rfl) T.g_all (by decide +kernel) (pa_cons (pe_lc (own := [("place", 4)]) (g := gName 4) (tt := tYes) rfl nd (pi_tup (pv 3)) (blkOk_by (own := [("place", 4)]) (N := ["many", "wide", "found", "some", "place"]) (sc := (defScope s__law_closed)) (by decide +kernel)) (fun _ _ _ _ _ => pg_name (i := 4) nd rfl (Or.inl rfl)) (fun _ _ _ _ _ => pts_nil) (fun _ _ _ _ _ => (pe_or (pe_cmpR op_eq (pv 4) pe_int (nomark _)) (pe_one (pe_cmpR (r := L2.rIn K false) op_in_seq (pe_op op_fdivN (pe_op op_sub (pv 4) pe_int) (pv 1)) (pv 3) (by rfl)))))) pa_nil))) (pss_one (ps_expr (pe_bm PySem.F.plainAttrs_list PySem.F.slot_list_append PySem.F.type_list_append mt_append (pv 2) (pa_cons (pv 3) pa_nil)))) pss_nil)))
      (pss_one (ps_ret (pe_callB (cr_sortT0 hu2) (by rfl) T.g_sorted (by decide +kernel) (pa_cons (pv 2) pa_nil)))))), ?_⟩
    refine ⟨Nat.zero_le _, fun D nD => ?_⟩
    have hD0 : upd H D (.lst []) D = some (.lst []) := upd_same
    have ac0 := AccR.start nD
    refine ⟨fun σ' H' => ∃ x3 : Option V, σ' = [some (.int n), some (.int w), some (.ref D), x3, none] ∧ AccR H D ((closP n w).map natB) H', ?_, ?_⟩
    · refine ⟨_, rfl, n, rfl, h7, fun H1 q1 xs s1 n1 e1 r1 => ?_⟩
      have hq1 : q1 ≠ D := fun z => by
        rw [z, hD0] at n1
        cases n1
      have hxl : xs.length = (partsL n).length := by
        have := Paired.length r1
        rw [List.length_map] at this
        exact this
      refine ⟨q1, rfl, ⟨_, SqL.of e1⟩, ?_⟩
      refine for_it (walk_list (xs := xs)) (fun j σ' H' => ∃ x3 : Option V, σ' = [some (.int n), some (.int w), some (.ref D), x3, none] ∧ AccR H D ((((partsL n).take j).filter (clB w)).map natB) H' ∧ H' q1 = some (.lst xs) ∧ NRows H' xs (partsL n))
        ⟨none, rfl, ac0.same s1, e1, r1⟩ (fun j σ' H' _ ⟨_, _, _, e, _⟩ => SqL.of e) ?_ ?_
      · rintro j y σ' H4 H5 hj ⟨x3, rfl, ac, e5, r5⟩ ⟨rfl, hy⟩
        obtain ⟨hj2, t, rfl, et⟩ := r5.get hy
        obtain ⟨hsl, hlt, hasc⟩ := ev4 _ (List.getElem_mem hj2)
        obtain ⟨l, eO⟩ : ∃ l, (partsL n)[j] = l := ⟨_, rfl⟩
        rw [eO] at et hsl hlt
        obtain ⟨bs, eb⟩ : ∃ bs, bs = l.map fun p => okUp w p l := ⟨_, rfl⟩
        have hbl : bs.length = l.length := by rw [eb, List.length_map]
        refine ⟨_, rfl, t, rfl, ⟨_, SqT.of et⟩, fun D2 nD2 => ?_⟩
        refine lc_it (walk_tup (xs := nv l)) (fun i H' => Acc H5 D2 ((bs.take i).map V.bl) H') (Acc.start nD2) (fun i H' _ ac => SqT.of (ac.s _ _ et)) ?_ ?_
        · rintro i y H3o H3 hi ac2 ⟨rfl, hy⟩
          obtain ⟨hi2, rfl⟩ := nv_at hy
          have hi3 : i < bs.length := by omega
          have fin : ∃ acc, H3 D2 = some (.lst acc) ∧ acc.length < sizeLine ∧ Acc H5 D2 ((bs.take (i + 1)).map V.bl) (upd H3 D2 (.lst (acc ++ [V.bl bs[i]]))) := by
            refine ⟨_, ac2.a, by rw [List.length_map, List.length_take, sizeLine_eq]; omega, ?_⟩
            rw [bls_snoc bs hi3]
            exact ac2.push
          have ej : bs[i] = okUp w l[i] l := by
            subst eb
            rw [List.getElem_map]
          refine ⟨rfl, iteT (B := Acc H5 D2 ((bs.take (i + 1)).map V.bl) H3) ?_⟩
          refine ⟨_, rfl, rfl, _, rfl, ?_⟩
          by_cases h0 : l[i] = 0
          · rw [decide_eq_true (show V.int (l[i] : Nat) = V.int 0 by rw [h0]; rfl)]
            rw [ej, okUp, decide_eq_true h0, Bool.true_or] at fin
            exact iteT fin
          · rw [decide_eq_false (show ¬ V.int (l[i] : Nat) = V.int 0 by intro z; injection z with z; omega)]
            refine iteF ?_
            have e : Int.fdiv ((l[i] : Int) - 1) (w : Int) = ((l[i] - 1) / w : Nat) := by
              rw [Int.fdiv_eq_ediv_of_nonneg _ (by omega), show ((l[i] : Int) - 1) = ((l[i] - 1 : Nat) : Int) by omega]
              rfl
            refine ⟨_, rfl, _, _, rfl, rfl, _, rfl, _, _, rfl, rfl, ⟨by omega, by omega⟩, _, rfl, t, _, rfl, .inr (SqT.of (ac2.s _ _ et)), rfl, nv_flat _, ?_⟩
            rw [if_neg Bool.false_ne_true, show ((fun i j : Int => V.int (i.fdiv j)) ((l[i] : Int) - 1) (w : Int)) = V.int (((l[i] - 1) / w : Nat) : Int) from congrArg V.int e, inV_nv]
            rw [ej, okUp, decide_eq_false h0, Bool.false_or] at fin
            exact fin
        · intro H3 ac2
          rw [nv_len, ← hbl, List.take_length] at ac2
          refine ⟨D2, bs, rfl, SqL.of ac2.a, _, rfl, ?_⟩
          rw [show bs.all id = clB w l from by
            rw [eb]
            unfold clB
            rw [List.all_map]
            rfl]
          have ac3 := ac.same ac2.s
          have e3 := ac2.s _ _ e5
          have r3 := RowsAt.same r5 ac2.s
          rw [← List.take_append_getElem hj2, List.filter_append, eO]
          by_cases hcl : clB w l = true
          · rw [hcl]
            have hfl : (((partsL n).take j).filter (clB w)).length ≤ 128 := Nat.le_trans (List.length_filter_le _ _) (by rw [List.length_take]; omega)
            obtain ⟨acc, a1, a2, a3⟩ := ac3.push (x := .ref t) (l := natB l) ⟨t, rfl, ac2.s _ _ et⟩ (small1000 (by rw [List.length_map]; omega))
            refine iteT ⟨_, rfl, .inl ⟨rfl, _, SqL.of a1⟩, _, rfl, D, _, _, rfl, rfl, a1, a2, _, rfl, ?_, ?_, ?_⟩
            · rw [List.filter_cons_of_pos hcl, List.filter_nil, List.map_append]
              exact a3
            · rw [upd_ne hq1]
              exact e3
            · exact RowsAt.put a1 r3
          · rw [Bool.eq_false_iff.mpr hcl]
            rw [List.filter_cons_of_neg hcl, List.filter_nil, List.append_nil]
            exact iteF ⟨_, rfl, ac3, e3, r3⟩
      · rintro σ' H3 ⟨x3, rfl, ac, e, r⟩
        rw [hxl, List.take_length] at ac
        exact ⟨x3, rfl, ac⟩
    rintro σ' H3 ⟨x3, rfl, ac⟩
    obtain ⟨ys, ey, ry⟩ := ac.a
    have ec : (closP n w).map natB = [] :: ((closP n w).drop 1).map natB := by
      conv => lhs; rw [ev3]
      rfl
    have ry2 := tupI_of (K := K) ry
    rw [ec] at ry2
    refine ⟨_, rfl, D, ys, ((closP n w).drop 1).map natB, rfl, SqL.of ey, ry2, fun us p hu np => ?_⟩
    rw [← ec, sort_gen ev1 ev2] at hu
    exact q _ p us (ac.s.trans (Same.up np)) upd_same (tupI_sm (Same.up np) hu)
theorem b_lc (T : Tx K mg A) : L2.Binds K A.d__law_closed ["many", "wide"] [] := T.F__law_closed.binds fun _ _ _ _ _ _ us hl => match us, hl with | [_, _], _ => rfl

end
end Tw

set_option Elab.async false
set_option linter.all false
set_option maxRecDepth 100000
set_option maxHeartbeats 2000000
namespace Tw
open PySem PySem.Spec PyProof.Rows L2
section
variable {P : Program} {w : World} {K : PySem.W.Frag} {mg : Str → Option Value} {base : Heap} {A : Ad}
/-! the law -/
theorem nv_getD {l : List Nat} {p : Nat} (h : p < l.length) : (nv l)[p]? = some (V.int (l.getD p 0 : Nat)) := by
  rw [nv_get h, List.getD_eq_getElem?_getD, List.getElem?_eq_getElem h]
  rfl
theorem rng_asc (c : Nat) : (natB (List.range c)).Pairwise (· ≤ ·) := by
  unfold natB
  rw [List.pairwise_map]
  exact List.pairwise_lt_range.imp fun h => Int.ofNat_le.mpr (Nat.le_of_lt h)
def spLh (K : PySem.W.Frag) : Sp := fun vs H Q _ => ∃ (t a n w : Nat) (s : List Nat), vs = [.ref t, .ref a, .int n, .int w] ∧ H t = some (.tup (nv (hwL n s))) ∧ SqT K H a (nv s) ∧ Dp7 n w ∧ s ∈ evL n w ∧ CSet n w s ∧
  ∀ H' : Hp, Same H H' → Q (.bl true) H'
theorem ok_lh (T : Tx K mg A) : FnOk P w K mg base CX0 1 A.f__law_is_heap A.d__law_is_heap ["row", "some", "many", "wide"] (spLh K) := by
  refine T.F__law_is_heap.ok sc__law_is_heap (fun vs H Q E h => ?_) (fun cdv B outer s H vs Q E hr h => ?_)
  · obtain ⟨t, a, n, w, s, rfl, _⟩ := h
    rfl
  · obtain ⟨t, a, n, w, l, rfl, ht, ha, d7, hm, hc, q⟩ := h
    have nd := sc__law_is_heap.nd
    have hu : (B.deeper (envOfC "_law_is_heap" (defScope s__law_is_heap) s.heap.objs.size A.f__law_is_heap cdv)).units + 64 < cLine := by have := hr.un; omega
    have h7 := d7.n7
    have hw := d7.w4
    have hk := d7.hw hm
    have hrl : (hwL n l).length = n := by
      have := hk.perm.length_eq
      rw [List.length_range] at this
      exact this
    have hll := hc.len
    refine ⟨_, PSs.nox (pss_cons (ps_if (PW.pt (pw_or (pt_not (pt_val (pe_callB call_isi (by rfl) T.g_isinstance (by decide +kernel) (pa_cons (pv 0) (pa_cons (pe_bltn (v := .ty "tuple") (by rfl) T.g_tuple (by decide +kernel) rfl) pa_nil))))) (pw_or1 (pt_cmpR (op_neD hu) (pe_callB cr_sortedTu (by rfl) T.g_sorted (by decide +kernel) (pa_cons (pv 0) pa_nil)) (pe_listRg rfl (by rfl) T.g_list (prg_1 (by rfl) T.g_range (pv 2))) (nomark _))))) (pss_one (ps_ret pe_bl)) pss_nil)
      (pss_cons (ps_if (pt_val (pe_callB (cr_any rfl) (by rfl) T.g_any (by decide +kernel) (pa_cons (pe_lc (own := [("place", 4)]) (g := gName 4) (tt := tYes) rfl nd (pi_range2 rfl T.g_range (pa_cons pe_int (pa_cons (pv 2) pa_nil))) (blkOk_by (own := [("place", 4)]) (N := ["row", "some", "many", "wide", "place"]) (sc := (defScope s__law_is_heap)) (by decide +kernel)) (fun _ _ _ _ _ => pg_name (i := 4) nd rfl (Or.inl rfl)) (fun _ _ _ _ _ => pts_nil) (fun _ _ _ _ _ => (pe_cmpR op_lt (pe_ix (r := rIxT K) ix_tup (pv 0) (pv 4) (fun _ _ => rfl)) (pe_ix (r := rIxT K) ix_tup (pv 0) (pe_op op_fdivN (pe_op op_sub (pv 4) pe_int) (pv 3)) (fun _ _ => rfl)) (nomark _)))) pa_nil))) (pss_one (ps_ret pe_bl)) pss_nil)
      (pss_one (ps_ret (pe_cmpR (op_eqD hu) (pe_callB cr_sortedI (by rfl) T.g_sorted (by decide +kernel) (pa_cons (pe_lc (own := [("place", 4)]) (g := gName 4) (tt := tYes) rfl nd (pi_tup (pv 1)) (blkOk_by (own := [("place", 4)]) (N := ["row", "some", "many", "wide", "place"]) (sc := (defScope s__law_is_heap)) (by decide +kernel)) (fun _ _ _ _ _ => pg_name (i := 4) nd rfl (Or.inl rfl)) (fun _ _ _ _ _ => pts_nil) (fun _ _ _ _ _ => (pe_ix (r := rIxT K) ix_tup (pv 0) (pv 4) (fun _ _ => rfl)))) pa_nil)) (pe_listRg rfl (by rfl) T.g_list (prg_1 (by rfl) T.g_range (pe_callB call_len_seq (by rfl) T.g_len PySem.boot_len (pa_cons (pv 1) pa_nil)))) (nomark _)))))), ?_⟩
    refine ⟨_, rfl, _, _, .type "tuple", .type "tuple", true, rfl, .ty "tuple", .base (.tup ht), kit_ty (by decide +kernel), true, rfl, iteF ?_⟩
    refine ⟨_, rfl, t, natB (hwL n l), rfl, SqT.of ht, fun ns' l1 perm srt n1 => ?_⟩
    obtain rfl : ns' = natB (List.range n) := sorted_one (perm.trans (hk.perm.map _)) srt (rng_asc n)
    have s1 := Same.up (o := .lst ((natB (List.range n)).map V.int)) n1
    have e1 : upd H l1 (.lst ((natB (List.range n)).map V.int)) l1 = some (.lst ((natB (List.range n)).map V.int)) := upd_same
    generalize upd H l1 (.lst ((natB (List.range n)).map V.int)) = G1 at s1 e1
    refine ⟨_, rfl, _, rfl, RgOk.of_le (by omega) (by omega) (by omega) (by omega), fun l2 n2 => ?_⟩
    rw [nv_rg]
    have s2 := s1.trans (Same.up (o := .lst (nv (List.range n))) n2)
    refine ⟨_, _, .lst (SqL.of ((Same.up n2) _ _ e1)) (ints_dp _ _ _), .lst (SqL.of upd_same) (ints_dp _ _ _), shaped_ints _, shaped_ints _, _, rfl, ?_⟩
    rw [refl_of (shaped_ints _)]
    refine iteF ?_
    generalize upd G1 l2 (.lst (nv (List.range n))) = G2 at s2
    have ht2 := s2 _ _ ht
    refine ⟨_, rfl, _, _, rfl, ⟨by decide, by decide, by omega, by omega⟩, fun D nD => ?_⟩
    rw [show ((n : Int) - 1).toNat = n - 1 by omega]
    refine lc_it (walk_range (lo := 1) (n := n - 1)) (fun j H' => Acc G2 D (List.replicate j (V.bl false)) H') (Acc.start nD) (fun _ _ _ _ => trivial) ?_ ?_
    · rintro j y H3 H4 hj ac ⟨rfl, ey⟩
      obtain rfl : y = V.int ((j + 1 : Nat) : Int) := by
        rw [ey]
        show V.int (1 + (j : Int)) = _
        rw [show (1 : Int) + (j : Int) = ((j + 1 : Nat) : Int) by omega]
      have hdiv : j / w ≤ j := Nat.div_le_self _ _
      have e : Int.fdiv (((j + 1 : Nat) : Int) - 1) (w : Int) = ((j / w : Nat) : Int) := by
        rw [Int.fdiv_eq_ediv_of_nonneg _ (by omega), show (((j + 1 : Nat) : Int) - 1) = ((j : Nat) : Int) by omega]
        rfl
      have hup := hk.up (j + 1) (by omega) (by omega)
      rw [Nat.add_sub_cancel] at hup
      have ht4 := ac.s _ _ ht2
      refine ⟨rfl, iteT (B := Acc G2 D (List.replicate (j + 1) (V.bl false)) H4) ?_⟩
      refine ⟨_, rfl, _, rfl, t, _, _, _, rfl, rfl, SqT.of ht4, atI_nat (nv_getD (p := j + 1) (by omega)), ?_⟩
      refine ⟨_, rfl, _, rfl, _, _, rfl, rfl, _, rfl, _, _, rfl, rfl, ⟨by omega, by omega⟩, t, _, _, _, rfl, congrArg V.int e, SqT.of ht4, atI_nat (nv_getD (p := j / w) (by omega)), ?_⟩
      refine ⟨_, _, rfl, rfl, ?_⟩
      show ∃ acc, H4 D = some (.lst acc) ∧ acc.length < sizeLine ∧ Acc G2 D (List.replicate (j + 1) (V.bl false)) (upd H4 D (.lst (acc ++ [V.bl (decide ((((hwL n l).getD (j + 1) 0 : Nat) : Int) < (((hwL n l).getD (j / w) 0 : Nat) : Int)))])))
      rw [decide_eq_false (show ¬ (((hwL n l).getD (j + 1) 0 : Nat) : Int) < (((hwL n l).getD (j / w) 0 : Nat) : Int) by omega)]
      refine ⟨_, ac.a, by rw [List.length_replicate, sizeLine_eq]; omega, ?_⟩
      rw [show List.replicate (j + 1) (V.bl false) = List.replicate j (V.bl false) ++ [V.bl false] from List.replicate_succ']
      exact ac.push
    · intro H3 ac
      refine ⟨D, List.replicate (n - 1) false, rfl, SqL.of (by rw [ac.a, List.map_replicate]), _, rfl, ?_⟩
      rw [repl_any]
      refine iteF ?_
      have s3 := s2.trans ac.s
      have ht3 := s3 _ _ ht
      have ha3 := SqT.sm s3 ha
      refine ⟨_, rfl, a, rfl, ⟨_, ha3⟩, fun D2 nD2 => ?_⟩
      refine lc_it (walk_tup (xs := nv l)) (fun i H' => Acc H3 D2 (nv ((l.take i).map fun p => (hwL n l).getD p 0)) H') (Acc.start nD2) (fun i H' _ ac => SqT.sm ac.s ha3) ?_ ?_
      · rintro i y H4 H5 hi ac2 ⟨rfl, hy⟩
        obtain ⟨hi2, rfl⟩ := nv_at hy
        have hb := (hc.up _ (List.getElem_mem hi2)).2
        refine ⟨rfl, iteT (B := Acc H3 D2 (nv ((l.take (i + 1)).map fun p => (hwL n l).getD p 0)) H5) ?_⟩
        refine ⟨_, rfl, _, rfl, t, _, _, _, rfl, rfl, SqT.of (ac2.s _ _ ht3), atI_nat (nv_getD (p := l[i]) (by omega)), ?_⟩
        refine ⟨_, ac2.a, by rw [nv_len, List.length_map, List.length_take, sizeLine_eq]; omega, ?_⟩
        rw [← List.take_append_getElem hi2, List.map_append, appN]
        exact ac2.push
      · intro H4 ac2
        rw [nv_len, List.take_length] at ac2
        refine ⟨D2, natB (l.map fun p => (hwL n l).getD p 0), rfl, SqL.of ac2.a, fun ns' l3 perm srt n3 => ?_⟩
        obtain rfl : ns' = natB (List.range l.length) := sorted_one (perm.trans (hk.least.map _)) srt (rng_asc _)
        have s5 := Same.up (o := .lst ((natB (List.range l.length)).map V.int)) n3
        have e5 : upd H4 l3 (.lst ((natB (List.range l.length)).map V.int)) l3 = some (.lst ((natB (List.range l.length)).map V.int)) := upd_same
        have ha5 := SqT.sm (ac2.s.trans s5) ha3
        generalize upd H4 l3 (.lst ((natB (List.range l.length)).map V.int)) = G5 at s5 e5 ha5
        refine ⟨_, rfl, a, _, rfl, .inr ha5, _, rfl, ?_⟩
        rw [nv_len]
        refine ⟨RgOk.of_le (by omega) (by omega) (by omega) (by omega), fun l4 n4 => ?_⟩
        rw [nv_rg]
        refine ⟨_, _, .lst (SqL.of ((Same.up n4) _ _ e5)) (ints_dp _ _ _), .lst (SqL.of upd_same) (ints_dp _ _ _), shaped_ints _, shaped_ints _, ?_⟩
        rw [refl_of (shaped_ints _)]
        exact q _ (s3.trans (ac2.s.trans (s5.trans (Same.up n4))))
theorem b_lh (T : Tx K mg A) : L2.Binds K A.d__law_is_heap ["row", "some", "many", "wide"] [] := T.F__law_is_heap.binds fun _ _ _ _ _ _ us hl => match us, hl with | [_, _, _, _], _ => rfl

end
end Tw

set_option Elab.async false
set_option linter.all false
set_option maxRecDepth 100000
set_option maxHeartbeats 2000000
namespace Tw
open PySem PySem.Spec PyProof.Rows L2
section
variable {P : Program} {w : World} {K : PySem.W.Frag} {mg : Str → Option Value} {base : Heap} {A : Ad}
theorem natB_inj {l m : List Nat} (h : natB l = natB m) : l = m := (List.map_inj_right (f := fun x : Nat => Int.ofNat x) fun x y e => Int.ofNat.inj e).mp h
theorem any_row (ls : List (List Nat)) (l : List Nat) : (((ls.map natB).map rowD).any fun z => PyData.eqv z (rowD (natB l))) = decide (l ∈ ls) := by
  rw [Bool.eq_iff_iff, List.any_eq_true, decide_eq_true_eq]
  refine ⟨fun ⟨z, hz, e⟩ => ?_, fun h => ⟨_, List.mem_map_of_mem (List.mem_map_of_mem h), rowD_same _⟩⟩
  obtain ⟨y, hy, rfl⟩ := List.mem_map.mp hz
  obtain ⟨m, hm, rfl⟩ := List.mem_map.mp hy
  rw [rowD_eqv, decide_eq_true_eq] at e
  rw [← natB_inj e]
  exact hm
/-- a thing that is no closed set, and that is told to be none -/
def BadG (K : PySem.W.Frag) (n : Nat) (G : Hp) (x : V) : Prop := (∀ H : Hp, Same G H → NoTup H x) ∨ ∃ (a : Addr) (xs : List V) (ds : List PyData), x = .ref a ∧ SeqAt.shaped (.tuple ds) = true ∧ (PyData.eqv (.tuple ds) (.tuple [.int 0]) = true → n = 0) ∧
  ∀ H : Hp, Same G H → SqT K H a xs ∧ DpAll K H xs ds ∧ (NoSet K n H x ∨ ∃ l : List Nat, xs = nv l ∧ l.length ≤ 12 ∧ (∀ p ∈ l, p < n) ∧ ¬ l.Pairwise (· < ·))
def spLor (K : PySem.W.Frag) : Sp := fun vs H Q _ => ∃ (n w : Nat) (q : Addr) (xs : List V), vs = [.int n, .int w, .ref q] ∧ Dp7 n w ∧ H q = some (.lst xs) ∧ TRows K H xs (evL n w) ∧ ∀ H' : Hp, Same H H' → Q (.bl true) H'
theorem ok_lor (T : Tx K mg A) : FnOk P w K mg base CX0 7 A.f__law_others_right A.d__law_others_right ["many", "wide", "every"] (spLor K) := by
  obtain ⟨mc, kic⟩ := kic T
  refine T.F__law_others_right.ok sc__law_others_right (fun vs H Q E h => ?_) (fun cdv B outer s H vs Q E hr h => ?_)
  · obtain ⟨n, w, q, xs, rfl, _⟩ := h
    rfl
  · obtain ⟨n, w, q2, xs, rfl, d7, e0, r0, q⟩ := h
    have nd := sc__law_others_right.nd
    have hu : (B.deeper (envOfC "_law_others_right" (defScope s__law_others_right) s.heap.objs.size A.f__law_others_right cdv)).units + 64 < cLine := by have := hr.un; omega
    have hu2 : (B.deeper (envOfC "_law_others_right" (defScope s__law_others_right) s.heap.objs.size A.f__law_others_right cdv)).units + 65 < cLine := by have := hr.un; omega
    have h7 := d7.n7
    have hw := d7.w4
    obtain ⟨ev1, ev2, ev3, ev4⟩ := d7.ev
    refine ⟨_, PSs.nox (C8.pss_cut (ps_for PassesOwn.never rfl (pi_list (pe_call (ok_lp T) (hr.mono (by decide)) (by rfl) T.m__law_parts T.F__law_parts.kp (b_lp T) .nil pass0 (pa_cons (pv 0) pa_nil))) (pg_name (i := 3) nd rfl (Or.inl rfl)) (pss_one (ps_if (pt_cmpR op_ne (pe_callN (ok_icl T) (hr.mono (by decide)) (by rfl) T.m_is_closed T.F_is_closed.kp kic pass0 (pa_cons (pv 0) (pa_cons (pv 3) pa_nil)) (pk_cons (pv 1) pk_nil)) (pe_cmpR (r := rInD K) (op_inD hu2) (pv 3) (pv 2) (by rfl)) (nomark _)) (pss_one (ps_ret pe_bl)) pss_nil)))
      (pss_cons (ps_for PassesOwn.never rfl (pi_list (pe_lst (pa_cons pe_non (pa_cons pe_int (pa_cons pe_str (pa_cons (pe_lst pa_nil) (pa_cons (pe_lst (pa_cons pe_int pa_nil)) (pa_cons (pe_tup (pa_cons (pv 0) pa_nil)) (pa_cons (pe_tup (pa_cons (pe_un un_neg pe_int) pa_nil)) (pa_cons (pe_tup (pa_cons pe_int (pa_cons pe_int pa_nil))) (pa_cons (pe_tup (pa_cons pe_bl pa_nil)) (pa_cons (pe_tup (pa_cons pe_str pa_nil)) (pa_cons (pe_tup (pa_cons pe_non pa_nil)) (pa_cons (pe_tup (pa_cons (pe_tup pa_nil) pa_nil)) (pa_cons pe_dnewK (pa_cons (pe_tup (pa_cons pe_int (pa_cons pe_int (pa_cons pe_int pa_nil)))) pa_nil)))))))))))))))) (pg_name (i := 4) nd rfl (Or.inl rfl)) (C8.pss_cut (ps_set (i := 5) nd rfl (Or.inl rfl) (pe_and (pe_callB call_isi (by rfl) T.g_isinstance (by decide +kernel) (pa_cons (pv 4) (pa_cons (pe_bltn (v := .ty "tuple") (by rfl) T.g_tuple (by decide +kernel) rfl) pa_nil))) (pe_and (pe_cmpR (op_eqD hu) (pv 4) (pe_tup (pa_cons pe_int pa_nil)) (nomark _)) (pe_one (pe_cmpR op_gt (pv 0) pe_int (nomark _))))))
      (pss_one (ps_if (pt_cmpR op_ne (pe_callN (ok_icl T) (hr.mono (by decide)) (by rfl) T.m_is_closed T.F_is_closed.kp kic pass0 (pa_cons (pv 0) (pa_cons (pv 4) pa_nil)) (pk_cons (pv 1) pk_nil)) (pv 5) (nomark _)) (pss_one (ps_ret pe_bl)) pss_nil))))
      (pss_one (ps_ret pe_bl)))), ?_⟩
    refine ⟨fun σ' H' => ∃ x3 : Option V, σ' = [some (.int n), some (.int w), some (.ref q2), x3, none, none] ∧ Same H H', ?_, ?_⟩
    · refine ⟨_, rfl, n, rfl, h7, fun H1 q1 ps s1 n1 e1 r1 => ?_⟩
      refine ⟨q1, rfl, ⟨_, SqL.of e1⟩, ?_⟩
      refine for_it (walk_list (xs := ps)) (fun j σ' H' => ∃ x3 : Option V, σ' = [some (.int n), some (.int w), some (.ref q2), x3, none, none] ∧ Same H1 H') ⟨none, rfl, Same.refl _⟩ (fun j σ' H' _ ⟨_, _, s⟩ => SqL.of (s _ _ e1)) ?_ ?_
      · rintro j y σ' H4 H5 hj ⟨x3, rfl, s5⟩ ⟨rfl, hy⟩
        obtain ⟨hj2, t, rfl, et⟩ := r1.get hy
        have hmem := List.getElem_mem hj2
        obtain ⟨hsl, hlt, hasc⟩ := ev4 _ hmem
        generalize (partsL n)[j] = l at et hsl hlt hasc hmem
        have et5 := s5 _ _ et
        refine ⟨_, rfl, _, rfl, _, rfl, rfl, rfl, n, w, .ref t, rfl, by omega, hw, .inr ⟨t, l, rfl, SqT.of et5, by omega, hlt, fun H6 s6 => ?_⟩⟩
        rw [decide_eq_true hasc, Bool.true_and]
        have s06 := s1.trans (s5.trans s6)
        refine ⟨_, rfl, _, rfl, rowD (natB l), ((evL n w).map natB).map rowD, nv_tup K (s6 _ _ et5), .lst (SqL.of (s06 _ _ e0)) (tupI_dp (tupI_sm s06 r0)), ints_shT _, rowsD_shaped _, ?_⟩
        rw [any_row]
        have ein : decide (l ∈ evL n w) = clB w l := by
          rw [Bool.eq_iff_iff, decide_eq_true_eq, ev1.mem_iff]
          exact ⟨fun h => (List.mem_filter.mp h).2, fun h => List.mem_filter.mpr ⟨hmem, h⟩⟩
        rw [ein]
        refine ⟨rfl, _, rfl, ?_⟩
        rw [decide_eq_true rfl]
        exact iteF ⟨_, rfl, s5.trans s6⟩
      · rintro σ' H2 ⟨x3, rfl, s2⟩
        exact ⟨x3, rfl, s1.trans s2⟩
    rintro σ' H2 ⟨x3, rfl, s2⟩
    refine ⟨Nat.zero_le _, fun a1 m1 => ?_⟩
    have u1 := Same.up (o := .lst []) m1
    have f1 : upd H2 a1 (.lst []) a1 = some (.lst []) := upd_same
    generalize upd H2 a1 (.lst []) = L1 at u1 f1 ⊢
    refine ⟨by show 1 ≤ sizeLine; decide, fun a2 m2 => ?_⟩
    have u2 := Same.up (o := .lst [V.int 0]) m2
    have f2 : upd L1 a2 (.lst [V.int 0]) a2 = some (.lst [V.int 0]) := upd_same
    generalize upd L1 a2 (.lst [V.int 0]) = L2 at u2 f2 ⊢
    refine ⟨_, rfl, by show 1 ≤ sizeLine; decide, fun a3 m3 => ?_⟩
    have u3 := Same.up (o := .tup [V.int n]) m3
    have f3 : upd L2 a3 (.tup [V.int n]) a3 = some (.tup [V.int n]) := upd_same
    generalize upd L2 a3 (.tup [V.int n]) = L3 at u3 f3 ⊢
    refine ⟨_, rfl, by show 1 ≤ sizeLine; decide, fun a4 m4 => ?_⟩
    have u4 := Same.up (o := .tup [V.int (-1)]) m4
    have f4 : upd L3 a4 (.tup [V.int (-1)]) a4 = some (.tup [V.int (-1)]) := upd_same
    generalize upd L3 a4 (.tup [V.int (-1)]) = L4 at u4 f4 ⊢
    refine ⟨by show 2 ≤ sizeLine; decide, fun a5 m5 => ?_⟩
    have u5 := Same.up (o := .tup [V.int 0, V.int 0]) m5
    have f5 : upd L4 a5 (.tup [V.int 0, V.int 0]) a5 = some (.tup [V.int 0, V.int 0]) := upd_same
    generalize upd L4 a5 (.tup [V.int 0, V.int 0]) = L5 at u5 f5 ⊢
    refine ⟨by show 1 ≤ sizeLine; decide, fun a6 m6 => ?_⟩
    have u6 := Same.up (o := .tup [V.bl true]) m6
    have f6 : upd L5 a6 (.tup [V.bl true]) a6 = some (.tup [V.bl true]) := upd_same
    generalize upd L5 a6 (.tup [V.bl true]) = L6 at u6 f6 ⊢
    refine ⟨by show 1 ≤ sizeLine; decide, fun a7 m7 => ?_⟩
    have u7 := Same.up (o := .tup [V.str "0"]) m7
    have f7 : upd L6 a7 (.tup [V.str "0"]) a7 = some (.tup [V.str "0"]) := upd_same
    generalize upd L6 a7 (.tup [V.str "0"]) = L7 at u7 f7 ⊢
    refine ⟨by show 1 ≤ sizeLine; decide, fun a8 m8 => ?_⟩
    have u8 := Same.up (o := .tup [V.non]) m8
    have f8 : upd L7 a8 (.tup [V.non]) a8 = some (.tup [V.non]) := upd_same
    generalize upd L7 a8 (.tup [V.non]) = L8 at u8 f8 ⊢
    refine ⟨Nat.zero_le _, fun a9 m9 => ?_⟩
    have u9 := Same.up (o := .tup []) m9
    have f9 : upd L8 a9 (.tup []) a9 = some (.tup []) := upd_same
    generalize upd L8 a9 (.tup []) = L9 at u9 f9 ⊢
    refine ⟨by show 1 ≤ sizeLine; decide, fun a10 m10 => ?_⟩
    have u10 := Same.up (o := .tup [V.ref a9]) m10
    have f10 : upd L9 a10 (.tup [V.ref a9]) a10 = some (.tup [V.ref a9]) := upd_same
    generalize upd L9 a10 (.tup [V.ref a9]) = L10 at u10 f10 ⊢
    refine fun a11 m11 => ?_
    have u11 := Same.up (o := .dK []) m11
    have f11 : upd L10 a11 (.dK []) a11 = some (.dK []) := upd_same
    generalize upd L10 a11 (.dK []) = L11 at u11 f11 ⊢
    refine ⟨by show 3 ≤ sizeLine; decide, fun a12 m12 => ?_⟩
    have u12 := Same.up (o := .tup [V.int 0, V.int 2, V.int 1]) m12
    have f12 : upd L11 a12 (.tup [V.int 0, V.int 2, V.int 1]) a12 = some (.tup [V.int 0, V.int 2, V.int 1]) := upd_same
    generalize upd L11 a12 (.tup [V.int 0, V.int 2, V.int 1]) = L12 at u12 f12 ⊢
    refine ⟨by show 14 ≤ sizeLine; decide, fun D nD => ?_⟩
    obtain ⟨things, ets⟩ : ∃ things : List V, things = [V.non, V.int 0, V.str "", V.ref a1, V.ref a2, V.ref a3, V.ref a4, V.ref a5, V.ref a6, V.ref a7, V.ref a8, V.ref a10, V.ref a11, V.ref a12] := ⟨_, rfl⟩
    have eD : upd L12 D (.lst [V.non, V.int 0, V.str "", V.ref a1, V.ref a2, V.ref a3, V.ref a4, V.ref a5, V.ref a6, V.ref a7, V.ref a8, V.ref a10, V.ref a11, V.ref a12]) D = some (.lst things) := by rw [ets]; exact upd_same
    have uD := Same.up (o := .lst [V.non, V.int 0, V.str "", V.ref a1, V.ref a2, V.ref a3, V.ref a4, V.ref a5, V.ref a6, V.ref a7, V.ref a8, V.ref a10, V.ref a11, V.ref a12]) nD
    generalize upd L12 D (.lst [V.non, V.int 0, V.str "", V.ref a1, V.ref a2, V.ref a3, V.ref a4, V.ref a5, V.ref a6, V.ref a7, V.ref a8, V.ref a10, V.ref a11, V.ref a12]) = G at eD uD
    have v12 := uD
    have v11 := u12.trans v12
    have v10 := u11.trans v11
    have v9 := u10.trans v10
    have v8 := u9.trans v9
    have v7 := u8.trans v8
    have v6 := u7.trans v7
    have v5 := u6.trans v6
    have v4 := u5.trans v5
    have v3 := u4.trans v4
    have v2 := u3.trans v3
    have v1 := u2.trans v2
    have v0 := u1.trans v1
    have oneI : ∀ (a : Addr) (i : Int), G a = some (.tup [V.int i]) → (i = 0 → n = 0) → decide (0 ≤ i ∧ i ≤ (n : Int) - 1) = false → BadG K n G (.ref a) := fun a i e hz hb =>
      .inr ⟨a, [.int i], [.int i], rfl, ints_shT [i], fun h => by
        rw [show PyData.eqv (.tuple [.int i]) (.tuple [.int 0]) = decide ([i] = [0]) from rowD_eqv [i] [0], decide_eq_true_eq] at h
        injection h with h
        exact hz h, fun H' s => ⟨SqT.of (s _ _ e), .cons (.int i) .nil, .inl (.inr ⟨a, _, [decide (0 ≤ i ∧ i ≤ (n : Int) - 1)], rfl, SqT.of (s _ _ e), by show 1 ≤ 12; decide, .cons (.inl ⟨i, rfl, rfl⟩) .nil, by rw [hb]; exact List.mem_cons_self⟩)⟩⟩
    have oneO : ∀ (a : Addr) (x : V) (d : PyData), G a = some (.tup [x]) → Odd K G x → (∀ H' : Hp, Same G H' → Dp K H' x d) → SeqAt.shaped (.tuple [d]) = true → PyData.eqv (.tuple [d]) (.tuple [.int 0]) = false → BadG K n G (.ref a) := fun a x d e ho hd hs hq =>
      .inr ⟨a, [x], [d], rfl, hs, (fun h => absurd (hq.symm.trans h) Bool.false_ne_true), fun H' s => ⟨SqT.of (s _ _ e), .cons (hd H' s) .nil, .inl (.inr ⟨a, _, [false], rfl, SqT.of (s _ _ e), by show 1 ≤ 12; decide, .cons (.inr ⟨ho.same s, rfl⟩) .nil, List.mem_cons_self⟩)⟩⟩
    have bad : ∀ x ∈ things, BadG K n G x := fun x hx => by
      rw [ets] at hx
      simp only [List.mem_cons, List.not_mem_nil, or_false] at hx
      rcases hx with rfl | rfl | rfl | rfl | rfl | rfl | rfl | rfl | rfl | rfl | rfl | rfl | rfl | rfl
      · exact .inl fun H' s => .inl rfl
      · exact .inl fun H' s => .inr (.inl ⟨_, rfl⟩)
      · exact .inl fun H' s => .inr (.inr (.inl ⟨_, rfl⟩))
      · exact .inl fun H' s => .inr (.inr (.inr (.inl ⟨a1, _, rfl, s _ _ (v1 _ _ f1)⟩)))
      · exact .inl fun H' s => .inr (.inr (.inr (.inl ⟨a2, _, rfl, s _ _ (v2 _ _ f2)⟩)))
      · exact oneI a3 n (v3 _ _ f3) (fun z => by omega) (decide_eq_false fun z => by omega)
      · exact oneI a4 (-1) (v4 _ _ f4) (fun z => by omega) (decide_eq_false fun z => by omega)
      · have e := v5 _ _ f5
        refine .inr ⟨a5, [.int 0, .int 0], [.int 0, .int 0], rfl, ints_shT [0, 0], fun h => ?_, fun H' s => ⟨SqT.of (s _ _ e), .cons (.int 0) (.cons (.int 0) .nil), ?_⟩⟩
        · rw [show PyData.eqv (.tuple [.int 0, .int 0]) (.tuple [.int 0]) = decide (([0, 0] : List Int) = [0]) from rowD_eqv [0, 0] [0]] at h
          exact absurd h (by decide)
        · by_cases h0 : n = 0
          · exact .inl (.inr ⟨a5, _, [false, false], rfl, SqT.of (s _ _ e), by show 2 ≤ 12; decide, .cons (.inl ⟨0, rfl, (decide_eq_false fun z => by omega).symm⟩) (.cons (.inl ⟨0, rfl, (decide_eq_false fun z => by omega).symm⟩) .nil), List.mem_cons_self⟩)
          · exact .inr ⟨[0, 0], rfl, by decide, fun p hp => by simp at hp; omega, by decide⟩
      · exact oneO a6 (.bl true) (.bool true) (v6 _ _ f6) (.inr (.inl ⟨_, rfl⟩)) (fun _ _ => .bl true) (by decide +kernel) (by decide +kernel)
      · exact oneO a7 (.str "0") (.str "0") (v7 _ _ f7) (.inr (.inr (.inl ⟨_, rfl⟩))) (fun _ _ => .str _) (by decide +kernel) (by decide +kernel)
      · exact oneO a8 .non .none (v8 _ _ f8) (.inl rfl) (fun _ _ => .non) (by decide +kernel) (by decide +kernel)
      · have e9 := v9 _ _ f9
        exact oneO a10 (.ref a9) (.tuple []) (v10 _ _ f10) (.inr (.inr (.inr ⟨a9, _, rfl, SqT.of e9⟩))) (fun H' s => .tup (SqT.of (s _ _ e9)) .nil) (by decide +kernel) (by decide +kernel)
      · exact .inl fun H' s => .inr (.inr (.inr (.inr ⟨a11, _, rfl, s _ _ (v11 _ _ f11)⟩)))
      · have e := v12 _ _ f12
        refine .inr ⟨a12, [.int 0, .int 2, .int 1], [.int 0, .int 2, .int 1], rfl, ints_shT [0, 2, 1], fun h => ?_, fun H' s => ⟨SqT.of (s _ _ e), .cons (.int 0) (.cons (.int 2) (.cons (.int 1) .nil)), ?_⟩⟩
        · rw [show PyData.eqv (.tuple [.int 0, .int 2, .int 1]) (.tuple [.int 0]) = decide (([0, 2, 1] : List Int) = [0]) from rowD_eqv [0, 2, 1] [0]] at h
          exact absurd h (by decide)
        · by_cases h0 : n < 3
          · exact .inl (.inr ⟨a12, _, [decide ((0 : Int) ≤ 0 ∧ (0 : Int) ≤ (n : Int) - 1), false, decide ((0 : Int) ≤ 1 ∧ (1 : Int) ≤ (n : Int) - 1)], rfl, SqT.of (s _ _ e), by show 3 ≤ 12; decide, .cons (.inl ⟨0, rfl, rfl⟩) (.cons (.inl ⟨2, rfl, (decide_eq_false fun z => by omega).symm⟩) (.cons (.inl ⟨1, rfl, rfl⟩) .nil)), List.mem_cons_of_mem _ List.mem_cons_self⟩)
          · exact .inr ⟨[0, 2, 1], rfl, by decide, fun p hp => by simp at hp; omega, by decide⟩
    refine ⟨D, rfl, ⟨_, SqL.of eD⟩, ?_⟩
    refine for_it (walk_list (xs := things)) (fun j σ' H' => ∃ x4 x5 : Option V, σ' = [some (.int n), some (.int w), some (.ref q2), x3, x4, x5] ∧ Same G H') ⟨none, none, rfl, Same.refl _⟩ (fun j σ' H' _ ⟨_, _, _, s⟩ => SqL.of (s _ _ eD)) ?_ ?_
    · rintro j x σ' H4 H5 hj ⟨x4, x5, rfl, s5⟩ ⟨rfl, hx⟩
      have bx := bad x (List.mem_of_getElem? hx)
      refine ⟨fun σ' H' => σ' = [some (.int n), some (.int w), some (.ref q2), x3, some x, some (.bl false)] ∧ Same G H', ?_, ?_⟩
      · rcases bx with h | ⟨a, ys, ds, rfl, hs, hz, hb⟩
        · obtain ⟨t, ty, k⟩ := NoTup.ty (K := K) (h _ s5)
          exact ⟨_, rfl, _, _, .type t, .type "tuple", false, rfl, .ty "tuple", ty, kit_ty k, false, rfl, iteF ⟨rfl, s5⟩⟩
        · refine ⟨_, rfl, _, _, .type "tuple", .type "tuple", true, rfl, .ty "tuple", sqT_ty (hb _ s5).1, kit_ty (by decide +kernel), true, rfl, iteT ?_⟩
          refine ⟨_, rfl, by show 1 ≤ sizeLine; decide, fun p np => ?_⟩
          have s6 := s5.trans (Same.up (o := .tup [V.int 0]) np)
          obtain ⟨ha, hd, _⟩ := hb _ s6
          refine ⟨.tuple ds, .tuple [.int 0], .tup ha hd, .tup (SqT.of upd_same) (.cons (.int 0) .nil), hs, ints_shT [0], _, rfl, ?_⟩
          by_cases hq : PyData.eqv (.tuple ds) (.tuple [.int 0]) = true
          · rw [hq]
            have hn := hz hq
            refine iteT ⟨_, rfl, _, _, rfl, rfl, ?_, s6⟩
            show [some (V.int n), some (V.int w), some (V.ref q2), x3, some (V.ref a), some (V.bl (decide ((0 : Int) < (n : Int))))] = _
            rw [decide_eq_false (show ¬ (0 : Int) < (n : Int) by omega)]
          · rw [Bool.eq_false_iff.mpr hq]
            exact iteF ⟨rfl, s6⟩
      rintro σ' H6 ⟨rfl, s6⟩
      refine ⟨_, rfl, _, rfl, _, rfl, rfl, rfl, n, w, x, rfl, by omega, hw, ?_⟩
      rcases bx with h | ⟨a, ys, ds, rfl, hs, hz, hb⟩
      · refine .inl ⟨.inl (h _ s6), fun H7 s7 => ⟨_, rfl, rfl, _, rfl, ?_⟩⟩
        rw [decide_eq_true rfl]
        exact iteF ⟨_, _, rfl, s6.trans s7⟩
      · obtain ⟨ha, _, h | ⟨l, rfl, hl, hlt, hna⟩⟩ := hb _ s6
        · refine .inl ⟨h, fun H7 s7 => ⟨_, rfl, rfl, _, rfl, ?_⟩⟩
          rw [decide_eq_true rfl]
          exact iteF ⟨_, _, rfl, s6.trans s7⟩
        · refine .inr ⟨a, l, rfl, ha, hl, hlt, fun H7 s7 => ⟨_, rfl, rfl, _, rfl, ?_⟩⟩
          rw [decide_eq_false hna, Bool.false_and, decide_eq_true rfl]
          exact iteF ⟨_, _, rfl, s6.trans s7⟩
    · rintro σ' H4 ⟨x4, x5, rfl, s4⟩
      exact q _ (s2.trans (v0.trans s4))
theorem b_lor (T : Tx K mg A) : L2.Binds K A.d__law_others_right ["many", "wide", "every"] [] := T.F__law_others_right.binds fun _ _ _ _ _ _ us hl => match us, hl with | [_, _, _], _ => rfl

end
end Tw

set_option Elab.async false
set_option linter.all false
set_option maxRecDepth 100000
set_option maxHeartbeats 2000000
namespace Tw
open PySem PySem.Spec PyProof.Rows L2
section
variable {P : Program} {w : World} {K : PySem.W.Frag} {mg : Str → Option Value} {base : Heap} {A : Ad}
theorem SqT.put {H : Hp} {D t : Addr} {ys xs : List V} {o : HO} (hD : H D = some (.lst ys)) (h : SqT K H t xs) : SqT K (upd H D o) t xs := by
  rcases h with (h | ⟨z, h⟩) | h
  · exact .inl (.inl (by rw [upd_ne (ne_of h hD (by intro y; cases y))]; exact h))
  · exact .inl (.inr ⟨z, by rw [upd_ne (ne_of h hD (by intro y; cases y))]; exact h⟩)
  · exact .inr h
theorem tI_put {H : Hp} {D : Addr} {ys : List V} {o : HO} (hD : H D = some (.lst ys)) : ∀ {xs : List V} {ls : List (List Int)}, Paired (TupI K H) xs ls → Paired (TupI K (upd H D o)) xs ls
  | _, _, .nil => .nil
  | _, _, .cons ⟨t, e, h⟩ p => .cons ⟨t, e, SqT.put hD h⟩ (tI_put hD p)
theorem tI_app {H : Hp} : ∀ {xs ys : List V} {ls ms : List (List Int)}, Paired (TupI K H) xs ls → Paired (TupI K H) ys ms → Paired (TupI K H) (xs ++ ys) (ls ++ ms)
  | _, _, _, _, .nil, b => b
  | _, _, _, _, .cons a p, b => .cons a (tI_app p b)
structure AccT (K : PySem.W.Frag) (H1 : Hp) (D : Addr) (ls : List (List Int)) (H : Hp) : Prop where
  s : Same H1 H
  n : H1 D = Option.none
  a : ∃ xs, H D = some (.lst xs) ∧ Paired (TupI K H) xs ls
theorem AccT.start {H1 : Hp} {D : Addr} (n : H1 D = none) : AccT K H1 D [] (upd H1 D (.lst [])) := ⟨Same.up n, n, [], upd_same, .nil⟩
theorem AccT.push {H1 H : Hp} {D : Addr} {ls : List (List Int)} {x : V} {l : List Int} (h : AccT K H1 D ls H) (hp : TupI K H x l) (hl : ls.length < sizeLine) :
    ∃ acc, H D = some (.lst acc) ∧ acc.length < sizeLine ∧ AccT K H1 D (ls ++ [l]) (upd H D (.lst (acc ++ [x]))) := by
  obtain ⟨xs, e, z⟩ := h.a
  refine ⟨xs, e, by rw [Paired.length z]; exact hl, fun b o k => ?_, h.n, xs ++ [x], upd_same, tI_put e (tI_app z (.cons hp .nil))⟩
  rw [upd_ne (ne_of_none k h.n)]
  exact h.s b o k
def spLaw (K : PySem.W.Frag) : Sp := fun vs H Q _ => ∃ (a : Addr) (ns : List Int), vs = [.ref a] ∧ SqL K H a (ns.map V.int) ∧ ns.length ≤ 63 ∧ ∀ H', Q (.bl true) H'
theorem rows_same {H : Hp} {p q : Addr} {xs ys : List V} {ls : List (List Int)} (h1 : H p = some (.lst xs)) (r1 : Paired (TupI K H) xs ls) (h2 : H q = some (.lst ys)) (r2 : Paired (TupI K H) ys ls) :
    ∃ d e, Dp K H (.ref p) d ∧ Dp K H (.ref q) e ∧ SeqAt.shaped d = true ∧ SeqAt.shaped e = true ∧ PyData.eqv d e = true :=
  ⟨.list (ls.map rowD), .list (ls.map rowD), .lst (SqL.of h1) (tupI_dp r1), .lst (SqL.of h2) (tupI_dp r2), rowsD_shaped _, rowsD_shaped _, by rw [rowsL_eqv, decide_eq_true rfl]⟩
theorem ok_law (T : Tx K mg A) : FnOk P w K mg base CX0 12 A.f_law A.d_law ["script"] (spLaw K) := by
  obtain ⟨m1, kmc⟩ := kmc T
  obtain ⟨m2, kat⟩ := kat T
  obtain ⟨m3, kix⟩ := kix T
  obtain ⟨m4, kcs⟩ := kcs T
  obtain ⟨m5, khw⟩ := khw T
  refine T.F_law.ok sc_law (fun vs H Q E h => ?_) (fun cdv B outer s H vs Q E hr h => ?_)
  · obtain ⟨a, ns, rfl, _⟩ := h
    rfl
  · obtain ⟨a, ns, rfl, ha, h63, q⟩ := h
    have nd := sc_law.nd
    have hu : (B.deeper (envOfC "law" (defScope s_law) s.heap.objs.size A.f_law cdv)).units + 64 < cLine := by have := hr.un; omega
    refine ⟨_, PSs.nox (C8.pss_cut (ps_set (i := 1) nd rfl (Or.inl rfl) (pe_callTy call_int1 (by rfl) T.g_int (by decide +kernel) (pa_cons (pe_call (ok_num T) (hr.mono (by decide)) (by rfl) T.m__law_number T.F__law_number.kp (b_num T) .nil pass0 (pa_cons (pv 0) (pa_cons pe_int pa_nil))) pa_nil)))
      (C8.pss_cut (ps_par (i := 2) (j := 3) rfl nd rfl rfl (by decide) rfl rfl (pa_cons (pe_op op_mod (pe_callTy call_int1 (by rfl) T.g_int (by decide +kernel) (pa_cons (pv 1) pa_nil)) pe_int) (pa_cons (pe_op op_add pe_int (pe_op op_mod (pe_callTy call_int1 (by rfl) T.g_int (by decide +kernel) (pa_cons (pe_op op_fdivN (pv 1) pe_int) pa_nil)) pe_int)) pa_nil)) rfl)
      (C8.pss_cut (ps_set (i := 4) nd rfl (Or.inl rfl) (pe_call (ok_lc T) (hr.mono (by decide)) (by rfl) T.m__law_closed T.F__law_closed.kp (b_lc T) .nil pass0 (pa_cons (pv 2) (pa_cons (pv 3) pa_nil))))
      (C8.pss_cut (ps_if (pt_not (pt_val (pe_call (ok_lor T) (hr.mono (by decide)) (by rfl) T.m__law_others_right T.F__law_others_right.kp (b_lor T) .nil pass0 (pa_cons (pv 2) (pa_cons (pv 3) (pa_cons (pv 4) pa_nil)))))) (pss_one (ps_ret pe_bl)) pss_nil)
      (C8.pss_cut (ps_for PassesOwn.never rfl (pi_range1 rfl T.g_range (pa_cons (pe_op op_add (pv 2) pe_int) pa_nil)) (pg_name (i := 5) nd rfl (Or.inr rfl)) (C8.pss_cut (ps_setLc (i := 6) (own := [("some", 9)]) (g := gName 9) rfl nd rfl rfl (sw_true rfl rfl rfl (by decide +kernel)) (pi_list (pv 4)) (blkOk_by (own := [("some", 9)]) (N := ["script", "seed", "many", "wide", "every", "count", "due", "found", "index", "some"]) (sc := (defScope s_law)) (by decide +kernel)) (fun _ _ _ _ _ => pg_name (i := 9) nd rfl (Or.inl rfl)) (fun _ _ _ _ _ => pts_one (pt_cmpR op_eq (pe_callB (r := rLn K) call_len_seq (by rfl) T.g_len PySem.boot_len (pa_cons (pv 9) pa_nil)) (pv 5) (nomark _))) (fun _ _ _ _ _ => (pv 9)))
      (C8.pss_cut (ps_set (i := 7) nd rfl (Or.inl rfl) (pe_callN (ok_cs T) (hr.mono (by decide)) (by rfl) T.m_closed_sets T.F_closed_sets.kp kcs pass0 (pa_cons (pv 2) (pa_cons (pv 5) pa_nil)) (pk_cons (pv 3) pk_nil)))
      (C8.pss_cut (ps_if (PW.pt (pw_or (pt_cmpR (op_neD hu) (pv 7) (pv 6) (nomark _)) (pw_or (pt_not (pt_val (pe_callB call_isi (by rfl) T.g_isinstance (by decide +kernel) (pa_cons (pv 7) (pa_cons (pe_bltn (v := .ty "list") (by rfl) T.g_list (by decide +kernel) rfl) pa_nil))))) (pw_or1 (pt_cmpR op_ne (pe_callN (ok_mc T) (hr.mono (by decide)) (by rfl) T.m_many_closed T.F_many_closed.kp kmc pass0 (pa_cons (pv 2) (pa_cons (pv 5) pa_nil)) (pk_cons (pv 3) pk_nil)) (pe_callB call_len_seq (by rfl) T.g_len PySem.boot_len (pa_cons (pv 6) pa_nil)) (nomark _)))))) (pss_one (ps_ret pe_bl)) pss_nil)
      (C8.pss_cut (ps_expr (pe_bm PySem.F.plainAttrs_list PySem.F.slot_list_append PySem.F.type_list_append mt_append (pv 7) (pa_cons (pe_tup pa_nil) pa_nil)))
      (C8.pss_cut (ps_if (pt_cmpR (op_neD hu) (pe_callN (ok_cs T) (hr.mono (by decide)) (by rfl) T.m_closed_sets T.F_closed_sets.kp kcs pass0 (pa_cons (pv 2) (pa_cons (pv 5) pa_nil)) (pk_cons (pv 3) pk_nil)) (pv 6) (nomark _)) (pss_one (ps_ret pe_bl)) pss_nil)
      (pss_one (ps_for PassesOwn.never rfl (pi_range1 rfl T.g_range (pa_cons (pe_callB call_len_seq (by rfl) T.g_len PySem.boot_len (pa_cons (pv 6) pa_nil)) pa_nil)) (pg_name (i := 8) nd rfl (Or.inl rfl)) (C8.pss_cut (ps_if (pt_cmpR (op_neD hu) (pe_callN (ok_at T) (hr.mono (by decide)) (by rfl) T.m_closed_at T.F_closed_at.kp kat pass0 (pa_cons (pv 2) (pa_cons (pv 5) (pa_cons (pv 8) pa_nil))) (pk_cons (pv 3) pk_nil)) (pe_ix ix_list (pv 6) (pv 8) (fun _ _ => rfl)) (nomark _)) (pss_one (ps_ret pe_bl)) pss_nil)
      (C8.pss_cut (ps_if (pt_cmpR op_ne (pe_callN (ok_cix T) (hr.mono (by decide)) (by rfl) T.m_closed_index T.F_closed_index.kp kix pass0 (pa_cons (pv 2) (pa_cons (pe_ix ix_list (pv 6) (pv 8) (fun _ _ => rfl)) pa_nil)) (pk_cons (pv 3) pk_nil)) (pv 8) (nomark _)) (pss_one (ps_ret pe_bl)) pss_nil)
      (pss_one (ps_if (pt_not (pt_val (pe_call (ok_lh T) (hr.mono (by decide)) (by rfl) T.m__law_is_heap T.F__law_is_heap.kp (b_lh T) .nil pass0 (pa_cons (pe_callN (ok_hw T) (hr.mono (by decide)) (by rfl) T.m_heap_with T.F_heap_with.kp khw pass0 (pa_cons (pv 2) (pa_cons (pe_ix ix_list (pv 6) (pv 8) (fun _ _ => rfl)) pa_nil)) (pk_cons (pv 3) pk_nil)) (pa_cons (pe_ix ix_list (pv 6) (pv 8) (fun _ _ => rfl)) (pa_cons (pv 2) (pa_cons (pv 3) pa_nil))))))) (pss_one (ps_ret pe_bl)) pss_nil))))))))))))
      (pss_one (ps_ret pe_bl))))))), ?_⟩
    refine ⟨fun σ' H' => ∃ r : Int, σ' = [some (.ref a), some (.int r), none, none, none, none, none, none, none, none], ?_, ?_⟩
    · exact ⟨_, rfl, a, ns, 0, rfl, ha, h63, by omega, fun H1 r s1 => .inl ⟨_, rfl, r, rfl⟩⟩
    rintro σ' H1 ⟨r, rfl⟩
    refine ⟨fun σ' H' => ∃ n w : Nat, σ' = [some (.ref a), some (.int r), some (.int n), some (.int w), none, none, none, none, none, none] ∧ Dp7 n w, ?_, ?_⟩
    · have a0 := Int.emod_nonneg r (show (8 : Int) ≠ 0 by decide)
      have a1 := Int.emod_lt_of_pos r (show (0 : Int) < 8 by decide)
      have b0 := Int.emod_nonneg (Int.fdiv r 8) (show (4 : Int) ≠ 0 by decide)
      have b1 := Int.emod_lt_of_pos (Int.fdiv r 8) (show (0 : Int) < 4 by decide)
      obtain ⟨n, hn⟩ : ∃ n : Nat, r % 8 = (n : Int) := ⟨_, (Int.toNat_of_nonneg a0).symm⟩
      obtain ⟨w, hw⟩ : ∃ w : Nat, 1 + Int.fdiv r 8 % 4 = (w : Int) := ⟨(1 + Int.fdiv r 8 % 4).toNat, (Int.toNat_of_nonneg (by omega)).symm⟩
      refine ⟨_, rfl, .inl ⟨_, rfl, _, _, rfl, rfl, by show (0 : Int) < 8; decide, _, rfl, _, _, rfl, rfl, ⟨by decide, by decide⟩, .inl ⟨_, rfl, _, _, rfl, rfl, by show (0 : Int) < 4; decide, _, _, rfl, rfl, _, _, rfl, n, w, ?_, ⟨by omega, by omega, by omega⟩⟩⟩⟩
      show [some (V.ref a), some (V.int r), some (V.int (r % 8)), some (V.int (1 + Int.fdiv r 8 % 4)), none, none, none, none, none, none] = _
      rw [hn, hw]
    rintro σ' H2 ⟨n, w1, rfl, d7⟩
    have h7 := d7.n7
    have hw := d7.w4
    obtain ⟨ev1, ev2, ev3, ev4⟩ := d7.ev
    refine ⟨fun σ' H' => ∃ (q4 : Addr) (xs : List V), σ' = [some (.ref a), some (.int r), some (.int n), some (.int w1), some (.ref q4), none, none, none, none, none] ∧ H' q4 = some (.lst xs) ∧ TRows K H' xs (evL n w1), ?_, ?_⟩
    · exact ⟨_, rfl, _, rfl, n, w1, rfl, d7, fun H3 q4 xs s3 e3 r3 => ⟨q4, xs, rfl, e3, r3⟩⟩
    rintro σ' H3 ⟨q4, xs, rfl, e3, r3⟩
    refine ⟨fun σ' H' => σ' = [some (.ref a), some (.int r), some (.int n), some (.int w1), some (.ref q4), none, none, none, none, none] ∧ Same H3 H', ?_, ?_⟩
    · exact ⟨_, rfl, _, rfl, _, rfl, n, w1, q4, xs, rfl, d7, e3, r3, fun H4 s4 => ⟨_, rfl, iteF ⟨rfl, s4⟩⟩⟩
    rintro σ' H4 ⟨rfl, s4⟩
    have hxl : xs.length = (evL n w1).length := by
      have := Paired.length r3
      rw [List.length_map] at this
      exact this
    have hel : (evL n w1).length ≤ 128 := by
      rw [ev1.length_eq]
      exact Nat.le_trans (List.length_filter_le _ _) (parts_le n (by omega) n (by omega) (Nat.le_refl _)).2
    refine ⟨fun σ' H' => ∃ x5 x6 x7 x8 : Option V, σ' = [some (.ref a), some (.int r), some (.int n), some (.int w1), some (.ref q4), x5, x6, x7, x8, none] ∧ Same H3 H', ?_, ?_⟩
    · refine ⟨_, rfl, _, _, rfl, rfl, _, rfl, by omega, by omega, ?_⟩
      rw [show ((n : Int) + 1).toNat = n + 1 by omega]
      refine for_it (walk_range (lo := 0) (n := n + 1)) (fun i σ' H' => ∃ x5 x6 x7 x8 : Option V, σ' = [some (.ref a), some (.int r), some (.int n), some (.int w1), some (.ref q4), x5, x6, x7, x8, none] ∧ Same H3 H') ⟨none, none, none, none, rfl, s4⟩ (fun _ _ _ _ _ => trivial) ?_ ?_
      · rintro c y σ' H5 H6 hc ⟨x5, x6, x7, x8, rfl, s6⟩ ⟨rfl, ey⟩
        obtain rfl : y = V.int (c : Nat) := by
          rw [ey]
          show V.int (0 + (c : Int)) = _
          rw [Int.zero_add]
        have hcn : c ≤ n := by omega
        have dom := d7.dom hcn
        have heq := d7.eq hcn
        -- due
        refine ⟨fun σ' H' => ∃ (d : Addr) (ds : List V), σ' = [some (.ref a), some (.int r), some (.int n), some (.int w1), some (.ref q4), some (.int c), some (.ref d), x7, x8, none] ∧ Same H3 H' ∧ H' d = some (.lst ds) ∧ TRows K H' ds (tC n w1 c), ?_, ?_⟩
        · refine ⟨_, rfl, q4, rfl, ⟨_, SqL.of (s6 _ _ e3)⟩, fun D nD => ?_⟩
          refine lc_it (walk_list (xs := xs)) (fun m H' => AccT K H6 D ((((evL n w1).take m).filter fun s => decide (s.length = c)).map natB) H') (AccT.start nD) (fun m H' _ ac => SqL.of ((s6.trans ac.s) _ _ e3)) ?_ ?_
          · rintro m y H7o H7 hm ac ⟨rfl, hy⟩
            obtain ⟨hm2, t, rfl, et⟩ := TRows.get r3 hy
            rw [List.length_map] at hm2
            rw [List.getElem_map] at et
            have et7 := SqT.sm (s6.trans ac.s) et
            have hml : (((evL n w1).take m).filter fun s => decide (s.length = c)).length ≤ 128 := Nat.le_trans (List.length_filter_le _ _) (by rw [List.length_take]; omega)
            refine ⟨rfl, _, rfl, t, _, rfl, .inr et7, _, rfl, rfl, _, rfl, ?_⟩
            rw [nv_len, ← List.take_append_getElem hm2, List.filter_append]
            by_cases hl : (evL n w1)[m].length = c
            · rw [decide_eq_true (show V.int ((evL n w1)[m].length : Nat) = V.int (c : Nat) by rw [hl])]
              refine iteT ⟨_, rfl, ?_⟩
              rw [List.filter_cons_of_pos (by rw [decide_eq_true hl]), List.filter_nil, List.map_append]
              obtain ⟨acc, a1, a2, a3⟩ := ac.push (x := .ref t) (l := natB (evL n w1)[m]) ⟨t, rfl, et7⟩ (small1000 (by rw [List.length_map]; omega))
              exact ⟨acc, a1, a2, a3⟩
            · rw [decide_eq_false (show ¬ V.int ((evL n w1)[m].length : Nat) = V.int (c : Nat) from fun z => hl (by injection z with z; exact Int.ofNat.inj z))]
              refine iteF ?_
              rw [List.filter_cons_of_neg (by rw [decide_eq_false hl]; exact Bool.false_ne_true), List.filter_nil, List.append_nil]
              exact ac
          · intro H7 ac
            rw [hxl, List.take_length, heq] at ac
            obtain ⟨ds, ed, rd⟩ := ac.a
            exact ⟨D, ds, rfl, s6.trans ac.s, ed, rd⟩
        rintro σ' H7 ⟨d, ds, rfl, s7, ed, rd⟩
        have hdl : ds.length = (tC n w1 c).length := by
          have := Paired.length rd
          rw [List.length_map] at this
          exact this
        have htl : (tC n w1 c).length ≤ 128 := by
          rw [← heq]
          exact Nat.le_trans (List.length_filter_le _ _) hel
        have dat : ∀ {G : Hp}, Same H7 G → G d = some (.lst ds) ∧ TRows K G ds (tC n w1 c) := fun s => ⟨s _ _ ed, tupI_sm s rd⟩
        -- found
        refine ⟨fun σ' H' => ∃ (f : Addr) (fs : List V), σ' = [some (.ref a), some (.int r), some (.int n), some (.int w1), some (.ref q4), some (.int c), some (.ref d), some (.ref f), x8, none] ∧ Same H7 H' ∧ H7 f = none ∧ H' f = some (.lst fs) ∧ TRows K H' fs (tC n w1 c), ?_, ?_⟩
        · exact ⟨_, rfl, _, rfl, _, rfl, rfl, rfl, n, c, w1, rfl, dom, fun H8 f fs s8 n8 e8 r8 => ⟨f, fs, rfl, s8, n8, e8, r8⟩⟩
        rintro σ' H8 ⟨f, fs, rfl, s8, nf, e8, r8⟩
        have hfl : fs.length ≤ 128 := by
          have := Paired.length r8
          rw [List.length_map] at this
          omega
        refine ⟨fun σ' H' => σ' = [some (.ref a), some (.int r), some (.int n), some (.int w1), some (.ref q4), some (.int c), some (.ref d), some (.ref f), x8, none] ∧ Same H8 H', ?_, ?_⟩
        · obtain ⟨d1, d2⟩ := dat s8
          obtain ⟨u, v, hu1, hv1, su, sv, huv⟩ := rows_same (K := K) e8 r8 d1 d2
          refine ⟨_, rfl, _, rfl, u, v, hu1, hv1, su, sv, _, rfl, ?_⟩
          rw [huv]
          refine iteF ?_
          refine ⟨_, rfl, _, _, .type "list", .type "list", true, rfl, .ty "list", .base (.lst e8), kit_ty (by decide +kernel), true, rfl, iteF ?_⟩
          refine ⟨_, rfl, _, rfl, _, rfl, rfl, rfl, n, c, w1, rfl, dom, fun H9 s9 => ?_⟩
          refine ⟨_, rfl, d, _, rfl, .inl (SqL.of (s9 _ _ d1)), rfl, _, rfl, ?_⟩
          rw [hdl, decide_eq_true rfl]
          exact iteF ⟨rfl, s9⟩
        rintro σ' H9 ⟨rfl, s9⟩
        refine ⟨fun σ' H' => σ' = [some (.ref a), some (.int r), some (.int n), some (.int w1), some (.ref q4), some (.int c), some (.ref d), some (.ref f), x8, none] ∧ Same H7 H', ?_, ?_⟩
        · refine ⟨_, rfl, .inl ⟨rfl, _, SqL.of (s9 _ _ e8)⟩, Nat.zero_le _, fun z nz => ?_⟩
          have sz := Same.up (o := .tup []) nz
          refine ⟨f, _, _, rfl, rfl, sz _ _ (s9 _ _ e8), by rw [sizeLine_eq]; omega, rfl, fun b o e => ?_⟩
          rw [upd_ne (fun z => by rw [z, nf] at e; cases e)]
          exact sz _ _ (s9 _ _ (s8 _ _ e))
        rintro σ' HA ⟨rfl, sA⟩
        refine ⟨fun σ' H' => σ' = [some (.ref a), some (.int r), some (.int n), some (.int w1), some (.ref q4), some (.int c), some (.ref d), some (.ref f), x8, none] ∧ Same H7 H', ?_, ?_⟩
        · refine ⟨_, rfl, _, rfl, _, rfl, rfl, rfl, n, c, w1, rfl, dom, fun HB g gs sB nB eB rB => ?_⟩
          obtain ⟨d1, d2⟩ := dat (sA.trans sB)
          obtain ⟨u, v, hu1, hv1, su, sv, huv⟩ := rows_same (K := K) eB rB d1 d2
          refine ⟨_, rfl, u, v, hu1, hv1, su, sv, _, rfl, ?_⟩
          rw [huv]
          exact iteF ⟨rfl, sA.trans sB⟩
        rintro σ' HB ⟨rfl, sB⟩
        refine ⟨_, rfl, d, _, rfl, .inl (SqL.of (dat sB).1), _, rfl, by omega, by omega, ?_⟩
        rw [hdl, Int.toNat_natCast]
        refine for_it (walk_range (lo := 0) (n := (tC n w1 c).length)) (fun i σ' H' => ∃ x8 : Option V, σ' = [some (.ref a), some (.int r), some (.int n), some (.int w1), some (.ref q4), some (.int c), some (.ref d), some (.ref f), x8, none] ∧ Same H7 H') ⟨x8, rfl, sB⟩ (fun _ _ _ _ _ => trivial) ?_ ?_
        · rintro i y σ' HC HD hi ⟨y8, rfl, sD⟩ ⟨rfl, ey⟩
          obtain rfl : y = V.int (i : Nat) := by
            rw [ey]
            show V.int (0 + (i : Int)) = _
            rw [Int.zero_add]
          obtain ⟨l, hl⟩ : ∃ l, (tC n w1 c)[i]? = some l := ⟨_, List.getElem?_eq_getElem hi⟩
          obtain ⟨hi2, es⟩ := List.getElem?_eq_some_iff.mp hl
          have hmem : l ∈ tC n w1 c := by rw [← es]; exact List.getElem_mem hi2
          obtain ⟨hcs, hlen⟩ := tC_set dom hmem
          have hev : l ∈ evL n w1 := by
            rw [← heq] at hmem
            exact (List.mem_filter.mp hmem).1
          have hdi : i < ds.length := by omega
          obtain ⟨hi3, t, et, ht⟩ := TRows.get rd (List.getElem?_eq_getElem hdi)
          rw [List.getElem_map, es] at ht
          have hat : ds[i]? = some (.ref t) := by rw [List.getElem?_eq_getElem hdi, et]
          refine ⟨fun σ' H' => σ' = [some (.ref a), some (.int r), some (.int n), some (.int w1), some (.ref q4), some (.int c), some (.ref d), some (.ref f), some (.int i), none] ∧ Same H7 H', ?_, ?_⟩
          · refine ⟨_, rfl, _, rfl, _, rfl, _, rfl, rfl, rfl, n, c, i, w1, l, rfl, dom, hl, fun HE v sE hv => ?_⟩
            obtain ⟨t2, rfl, ht2⟩ := hv
            have sDE := sD.trans sE
            refine ⟨_, rfl, _, rfl, d, ds, _, _, rfl, rfl, SqL.of (dat sDE).1, atI_nat hat, ?_⟩
            refine ⟨rowD (natB l), rowD (natB l), .tup ht2 (ints_dp K _ _), .tup (SqT.sm sDE ht) (ints_dp K _ _), ints_shT _, ints_shT _, _, rfl, ?_⟩
            rw [rowD_same]
            exact iteF ⟨rfl, sDE⟩
          rintro σ' HE ⟨rfl, sE⟩
          refine ⟨fun σ' H' => σ' = [some (.ref a), some (.int r), some (.int n), some (.int w1), some (.ref q4), some (.int c), some (.ref d), some (.ref f), some (.int i), none] ∧ Same H7 H', ?_, ?_⟩
          · refine ⟨_, rfl, _, rfl, _, rfl, d, ds, _, _, rfl, rfl, SqL.of (dat sE).1, atI_nat hat, _, rfl, rfl, rfl, n, c, t, w1, i, l, rfl, dom, SqT.sm sE ht, hl, fun HF sF => ?_⟩
            refine ⟨_, rfl, rfl, _, rfl, ?_⟩
            rw [decide_eq_true rfl]
            exact iteF ⟨rfl, sE.trans sF⟩
          rintro σ' HF ⟨rfl, sF⟩
          refine ⟨_, rfl, _, rfl, _, rfl, d, ds, _, _, rfl, rfl, SqL.of (dat sF).1, atI_nat hat, _, rfl, rfl, rfl, n, t, w1, l, rfl, d7, SqT.sm sF ht, hcs, hev, fun HG t3 sG e3 => ?_⟩
          have sFG := sF.trans sG
          refine ⟨_, rfl, _, rfl, d, ds, _, _, rfl, rfl, SqL.of (dat sFG).1, atI_nat hat, _, rfl, _, rfl, t3, t, n, w1, l, rfl, e3, SqT.sm sFG ht, d7, hev, hcs, fun HH sH => ⟨_, rfl, iteF ⟨_, rfl, sFG.trans sH⟩⟩⟩
        · rintro σ' HC ⟨y8, rfl, sC⟩
          exact ⟨_, _, _, _, rfl, s7.trans sC⟩
      · rintro σ' H5 ⟨x5, x6, x7, x8, rfl, s5⟩
        exact ⟨x5, x6, x7, x8, rfl, s5⟩
    rintro σ' H5 ⟨x5, x6, x7, x8, rfl, s5⟩
    exact q _
theorem b_law (T : Tx K mg A) : L2.Binds K A.d_law ["script"] [] := T.F_law.binds fun _ _ _ _ _ _ us hl => match us, hl with | [_], _ => rfl

end
end Tw

set_option Elab.async false
set_option linter.all false
set_option maxRecDepth 100000
set_option maxHeartbeats 2000000
namespace Tw
open PySem PySem.Spec PyProof.Rows L2
theorem kit_no {K : PySem.W.Frag} {C : Addr} {t : String} (hc : PySem.W.isClsIn K C = true) (ht : PySem.W.typeIn K (.ref C) = some (.type "type")) (hs : PySem.W.subIn K (.type t) (.ref C) = some false) : PySem.W.kitOne K (.type t) (.ref C) = some false := by
  unfold PySem.W.kitOne PySem.W.kitCls
  have h1 : (PySem.W.clsIn K C).isSome = true := hc
  simp only [h1, ht, hs, beq_self_eq_true, Bool.and_self, if_true]
  rfl
theorem all_mk {l : PySem.W.OpenLaw} {w : World} {K : PySem.W.Frag} {h : Heap} {mg : Str → Option Value} (X : K.In h) (G : h.Ns mainGlobals mg) {fa C po D_t___init__ D_t_of D_closed_sets D_many_closed D_closed_at D_is_closed D_closed_index D_heap_with f_is_integer f_is_integer_from f_is_key f_is_set_of_places f_check_arms f_check_many f_check_place f_check_index f_check_count f_row_of f_t___init__ f_t_of f_t___len__ f_t___iter__ f_t___getitem__ f_t_parent f_all_closed f_closed_sets f_many_closed f_closed_at f_is_closed f_check_closed f_closed_index f_row_by_order f_heap_with f__law_number f__law_parts f__law_closed f__law_is_heap f__law_others_right f_law : Addr} {od_is_integer an_is_integer : Option Addr} {sl_is_integer : Array (Option Value)} {oc_is_integer kV_is_integer dc_is_integer pm_is_integer cd_is_integer ct_is_integer : Value} {od_is_integer_from an_is_integer_from : Option Addr} {sl_is_integer_from : Array (Option Value)} {oc_is_integer_from kV_is_integer_from dc_is_integer_from pm_is_integer_from cd_is_integer_from ct_is_integer_from : Value} {od_is_key an_is_key : Option Addr} {sl_is_key : Array (Option Value)} {oc_is_key kV_is_key dc_is_key pm_is_key cd_is_key ct_is_key : Value} {od_is_set_of_places an_is_set_of_places : Option Addr} {sl_is_set_of_places : Array (Option Value)} {oc_is_set_of_places kV_is_set_of_places dc_is_set_of_places pm_is_set_of_places cd_is_set_of_places ct_is_set_of_places : Value} {od_check_arms an_check_arms : Option Addr} {sl_check_arms : Array (Option Value)} {oc_check_arms kV_check_arms dc_check_arms pm_check_arms cd_check_arms ct_check_arms : Value} {od_check_many an_check_many : Option Addr} {sl_check_many : Array (Option Value)} {oc_check_many kV_check_many dc_check_many pm_check_many cd_check_many ct_check_many : Value} {od_check_place an_check_place : Option Addr} {sl_check_place : Array (Option Value)} {oc_check_place kV_check_place dc_check_place pm_check_place cd_check_place ct_check_place : Value} {od_check_index an_check_index : Option Addr} {sl_check_index : Array (Option Value)} {oc_check_index kV_check_index dc_check_index pm_check_index cd_check_index ct_check_index : Value} {od_check_count an_check_count : Option Addr} {sl_check_count : Array (Option Value)} {oc_check_count kV_check_count dc_check_count pm_check_count cd_check_count ct_check_count : Value} {od_row_of an_row_of : Option Addr} {sl_row_of : Array (Option Value)} {oc_row_of kV_row_of dc_row_of pm_row_of cd_row_of ct_row_of : Value} {od_t___init__ an_t___init__ : Option Addr} {sl_t___init__ : Array (Option Value)} {oc_t___init__  dc_t___init__ pm_t___init__ cd_t___init__ ct_t___init__ : Value} {od_t_of an_t_of : Option Addr} {sl_t_of : Array (Option Value)} {oc_t_of  dc_t_of pm_t_of cd_t_of ct_t_of : Value} {od_t___len__ an_t___len__ : Option Addr} {sl_t___len__ : Array (Option Value)} {oc_t___len__ kV_t___len__ dc_t___len__ pm_t___len__ cd_t___len__ ct_t___len__ : Value} {od_t___iter__ an_t___iter__ : Option Addr} {sl_t___iter__ : Array (Option Value)} {oc_t___iter__ kV_t___iter__ dc_t___iter__ pm_t___iter__ cd_t___iter__ ct_t___iter__ : Value} {od_t___getitem__ an_t___getitem__ : Option Addr} {sl_t___getitem__ : Array (Option Value)} {oc_t___getitem__ kV_t___getitem__ dc_t___getitem__ pm_t___getitem__ cd_t___getitem__ ct_t___getitem__ : Value} {od_t_parent an_t_parent : Option Addr} {sl_t_parent : Array (Option Value)} {oc_t_parent kV_t_parent dc_t_parent pm_t_parent cd_t_parent ct_t_parent : Value} {od_all_closed an_all_closed : Option Addr} {sl_all_closed : Array (Option Value)} {oc_all_closed kV_all_closed dc_all_closed pm_all_closed cd_all_closed ct_all_closed : Value} {od_closed_sets an_closed_sets : Option Addr} {sl_closed_sets : Array (Option Value)} {oc_closed_sets  dc_closed_sets pm_closed_sets cd_closed_sets ct_closed_sets : Value} {od_many_closed an_many_closed : Option Addr} {sl_many_closed : Array (Option Value)} {oc_many_closed  dc_many_closed pm_many_closed cd_many_closed ct_many_closed : Value} {od_closed_at an_closed_at : Option Addr} {sl_closed_at : Array (Option Value)} {oc_closed_at  dc_closed_at pm_closed_at cd_closed_at ct_closed_at : Value} {od_is_closed an_is_closed : Option Addr} {sl_is_closed : Array (Option Value)} {oc_is_closed  dc_is_closed pm_is_closed cd_is_closed ct_is_closed : Value} {od_check_closed an_check_closed : Option Addr} {sl_check_closed : Array (Option Value)} {oc_check_closed kV_check_closed dc_check_closed pm_check_closed cd_check_closed ct_check_closed : Value} {od_closed_index an_closed_index : Option Addr} {sl_closed_index : Array (Option Value)} {oc_closed_index  dc_closed_index pm_closed_index cd_closed_index ct_closed_index : Value} {od_row_by_order an_row_by_order : Option Addr} {sl_row_by_order : Array (Option Value)} {oc_row_by_order kV_row_by_order dc_row_by_order pm_row_by_order cd_row_by_order ct_row_by_order : Value} {od_heap_with an_heap_with : Option Addr} {sl_heap_with : Array (Option Value)} {oc_heap_with  dc_heap_with pm_heap_with cd_heap_with ct_heap_with : Value} {od__law_number an__law_number : Option Addr} {sl__law_number : Array (Option Value)} {oc__law_number kV__law_number dc__law_number pm__law_number cd__law_number ct__law_number : Value} {od__law_parts an__law_parts : Option Addr} {sl__law_parts : Array (Option Value)} {oc__law_parts kV__law_parts dc__law_parts pm__law_parts cd__law_parts ct__law_parts : Value} {od__law_closed an__law_closed : Option Addr} {sl__law_closed : Array (Option Value)} {oc__law_closed kV__law_closed dc__law_closed pm__law_closed cd__law_closed ct__law_closed : Value} {od__law_is_heap an__law_is_heap : Option Addr} {sl__law_is_heap : Array (Option Value)} {oc__law_is_heap kV__law_is_heap dc__law_is_heap pm__law_is_heap cd__law_is_heap ct__law_is_heap : Value} {od__law_others_right an__law_others_right : Option Addr} {sl__law_others_right : Array (Option Value)} {oc__law_others_right kV__law_others_right dc__law_others_right pm__law_others_right cd__law_others_right ct__law_others_right : Value} {od_law an_law : Option Addr} {sl_law : Array (Option Value)} {oc_law kV_law dc_law pm_law cd_law ct_law : Value}
    (hfa : mg "law" = some (.ref fa))
    (aC : PySem.W.nsIn K mainGlobals "Tree" = some (some (.ref C)))
    (a_is_integer : PySem.W.nsIn K mainGlobals "is_integer" = some (some (.ref f_is_integer)))
    (l_is_integer : K.lookup f_is_integer = some ⟨oc_is_integer, od_is_integer, .func (PySem.W.fnOf "is_integer" "is_integer" (defArgs s_is_integer) (defBody s_is_integer) (defScope s_is_integer) .none kV_is_integer dc_is_integer pm_is_integer an_is_integer cd_is_integer ct_is_integer), sl_is_integer⟩)
    (c_is_integer : PySem.W.codeIn K cd_is_integer "is_integer" = true)
    (k_is_integer : PySem.W.keepIn K (.ref f_is_integer) = true)
    (a_is_integer_from : PySem.W.nsIn K mainGlobals "is_integer_from" = some (some (.ref f_is_integer_from)))
    (l_is_integer_from : K.lookup f_is_integer_from = some ⟨oc_is_integer_from, od_is_integer_from, .func (PySem.W.fnOf "is_integer_from" "is_integer_from" (defArgs s_is_integer_from) (defBody s_is_integer_from) (defScope s_is_integer_from) .none kV_is_integer_from dc_is_integer_from pm_is_integer_from an_is_integer_from cd_is_integer_from ct_is_integer_from), sl_is_integer_from⟩)
    (c_is_integer_from : PySem.W.codeIn K cd_is_integer_from "is_integer_from" = true)
    (k_is_integer_from : PySem.W.keepIn K (.ref f_is_integer_from) = true)
    (a_is_key : PySem.W.nsIn K mainGlobals "is_key" = some (some (.ref f_is_key)))
    (l_is_key : K.lookup f_is_key = some ⟨oc_is_key, od_is_key, .func (PySem.W.fnOf "is_key" "is_key" (defArgs s_is_key) (defBody s_is_key) (defScope s_is_key) .none kV_is_key dc_is_key pm_is_key an_is_key cd_is_key ct_is_key), sl_is_key⟩)
    (c_is_key : PySem.W.codeIn K cd_is_key "is_key" = true)
    (k_is_key : PySem.W.keepIn K (.ref f_is_key) = true)
    (a_is_set_of_places : PySem.W.nsIn K mainGlobals "is_set_of_places" = some (some (.ref f_is_set_of_places)))
    (l_is_set_of_places : K.lookup f_is_set_of_places = some ⟨oc_is_set_of_places, od_is_set_of_places, .func (PySem.W.fnOf "is_set_of_places" "is_set_of_places" (defArgs s_is_set_of_places) (defBody s_is_set_of_places) (defScope s_is_set_of_places) .none kV_is_set_of_places dc_is_set_of_places pm_is_set_of_places an_is_set_of_places cd_is_set_of_places ct_is_set_of_places), sl_is_set_of_places⟩)
    (c_is_set_of_places : PySem.W.codeIn K cd_is_set_of_places "is_set_of_places" = true)
    (k_is_set_of_places : PySem.W.keepIn K (.ref f_is_set_of_places) = true)
    (a_check_arms : PySem.W.nsIn K mainGlobals "check_arms" = some (some (.ref f_check_arms)))
    (l_check_arms : K.lookup f_check_arms = some ⟨oc_check_arms, od_check_arms, .func (PySem.W.fnOf "check_arms" "check_arms" (defArgs s_check_arms) (defBody s_check_arms) (defScope s_check_arms) .none kV_check_arms dc_check_arms pm_check_arms an_check_arms cd_check_arms ct_check_arms), sl_check_arms⟩)
    (c_check_arms : PySem.W.codeIn K cd_check_arms "check_arms" = true)
    (k_check_arms : PySem.W.keepIn K (.ref f_check_arms) = true)
    (a_check_many : PySem.W.nsIn K mainGlobals "check_many" = some (some (.ref f_check_many)))
    (l_check_many : K.lookup f_check_many = some ⟨oc_check_many, od_check_many, .func (PySem.W.fnOf "check_many" "check_many" (defArgs s_check_many) (defBody s_check_many) (defScope s_check_many) .none kV_check_many dc_check_many pm_check_many an_check_many cd_check_many ct_check_many), sl_check_many⟩)
    (c_check_many : PySem.W.codeIn K cd_check_many "check_many" = true)
    (k_check_many : PySem.W.keepIn K (.ref f_check_many) = true)
    (a_check_place : PySem.W.nsIn K mainGlobals "check_place" = some (some (.ref f_check_place)))
    (l_check_place : K.lookup f_check_place = some ⟨oc_check_place, od_check_place, .func (PySem.W.fnOf "check_place" "check_place" (defArgs s_check_place) (defBody s_check_place) (defScope s_check_place) .none kV_check_place dc_check_place pm_check_place an_check_place cd_check_place ct_check_place), sl_check_place⟩)
    (c_check_place : PySem.W.codeIn K cd_check_place "check_place" = true)
    (k_check_place : PySem.W.keepIn K (.ref f_check_place) = true)
    (a_check_index : PySem.W.nsIn K mainGlobals "check_index" = some (some (.ref f_check_index)))
    (l_check_index : K.lookup f_check_index = some ⟨oc_check_index, od_check_index, .func (PySem.W.fnOf "check_index" "check_index" (defArgs s_check_index) (defBody s_check_index) (defScope s_check_index) .none kV_check_index dc_check_index pm_check_index an_check_index cd_check_index ct_check_index), sl_check_index⟩)
    (c_check_index : PySem.W.codeIn K cd_check_index "check_index" = true)
    (k_check_index : PySem.W.keepIn K (.ref f_check_index) = true)
    (a_check_count : PySem.W.nsIn K mainGlobals "check_count" = some (some (.ref f_check_count)))
    (l_check_count : K.lookup f_check_count = some ⟨oc_check_count, od_check_count, .func (PySem.W.fnOf "check_count" "check_count" (defArgs s_check_count) (defBody s_check_count) (defScope s_check_count) .none kV_check_count dc_check_count pm_check_count an_check_count cd_check_count ct_check_count), sl_check_count⟩)
    (c_check_count : PySem.W.codeIn K cd_check_count "check_count" = true)
    (k_check_count : PySem.W.keepIn K (.ref f_check_count) = true)
    (a_row_of : PySem.W.nsIn K mainGlobals "row_of" = some (some (.ref f_row_of)))
    (l_row_of : K.lookup f_row_of = some ⟨oc_row_of, od_row_of, .func (PySem.W.fnOf "row_of" "row_of" (defArgs s_row_of) (defBody s_row_of) (defScope s_row_of) .none kV_row_of dc_row_of pm_row_of an_row_of cd_row_of ct_row_of), sl_row_of⟩)
    (c_row_of : PySem.W.codeIn K cd_row_of "row_of" = true)
    (k_row_of : PySem.W.keepIn K (.ref f_row_of) = true)
    (a_t___init__ : PySem.W.findIn K (.ref C) "__init__" = some (some (.ref f_t___init__)))
    (i_t___init__ : PySem.W.isFn K (.ref f_t___init__) = true)
    (l_t___init__ : K.lookup f_t___init__ = some ⟨oc_t___init__, od_t___init__, .func (PySem.W.fnOf "__init__" "Tree.__init__" (defArgs s_t___init__) (defBody s_t___init__) (defScope s_t___init__) .none (.ref D_t___init__) dc_t___init__ pm_t___init__ an_t___init__ cd_t___init__ ct_t___init__), sl_t___init__⟩)
    (c_t___init__ : PySem.W.codeIn K cd_t___init__ "Tree.__init__" = true)
    (k_t___init__ : PySem.W.keepIn K (.ref f_t___init__) = true)
    {tk_t___init__ : Tok}
    (w_t___init__ : PySem.W.nsIn K D_t___init__ "arms" = some (some (.int 2 tk_t___init__)))
    (a_t_of : PySem.W.findCls K (.ref C) (.type "type") "of" = some (.get (.builtin "classmethod.__get__") (.ref po) .none (.ref C)))
    {rest_of : List Value}
    (r_t_of : PySem.W.recIn K po "classmethod" = some (.ref f_t_of :: rest_of))
    (n_t_of : PySem.W.fnIn K f_t_of = true)
    (l_t_of : K.lookup f_t_of = some ⟨oc_t_of, od_t_of, .func (PySem.W.fnOf "of" "Tree.of" (defArgs s_t_of) (defBody s_t_of) (defScope s_t_of) .none (.ref D_t_of) dc_t_of pm_t_of an_t_of cd_t_of ct_t_of), sl_t_of⟩)
    (c_t_of : PySem.W.codeIn K cd_t_of "Tree.of" = true)
    (k_t_of : PySem.W.keepIn K (.ref f_t_of) = true)
    {tk_t_of : Tok}
    (w_t_of : PySem.W.nsIn K D_t_of "arms" = some (some (.int 2 tk_t_of)))
    (a_t___len__ : PySem.W.findIn K (.ref C) "__len__" = some (some (.ref f_t___len__)))
    (i_t___len__ : PySem.W.isFn K (.ref f_t___len__) = true)
    (n_t___len__ : PySem.W.fnIn K f_t___len__ = true)
    (l_t___len__ : K.lookup f_t___len__ = some ⟨oc_t___len__, od_t___len__, .func (PySem.W.fnOf "__len__" "Tree.__len__" (defArgs s_t___len__) (defBody s_t___len__) (defScope s_t___len__) .none kV_t___len__ dc_t___len__ pm_t___len__ an_t___len__ cd_t___len__ ct_t___len__), sl_t___len__⟩)
    (c_t___len__ : PySem.W.codeIn K cd_t___len__ "Tree.__len__" = true)
    (k_t___len__ : PySem.W.keepIn K (.ref f_t___len__) = true)
    (a_t___iter__ : PySem.W.findIn K (.ref C) "__iter__" = some (some (.ref f_t___iter__)))
    (i_t___iter__ : PySem.W.isFn K (.ref f_t___iter__) = true)
    (n_t___iter__ : PySem.W.fnIn K f_t___iter__ = true)
    (l_t___iter__ : K.lookup f_t___iter__ = some ⟨oc_t___iter__, od_t___iter__, .func (PySem.W.fnOf "__iter__" "Tree.__iter__" (defArgs s_t___iter__) (defBody s_t___iter__) (defScope s_t___iter__) .none kV_t___iter__ dc_t___iter__ pm_t___iter__ an_t___iter__ cd_t___iter__ ct_t___iter__), sl_t___iter__⟩)
    (c_t___iter__ : PySem.W.codeIn K cd_t___iter__ "Tree.__iter__" = true)
    (k_t___iter__ : PySem.W.keepIn K (.ref f_t___iter__) = true)
    (a_t___getitem__ : PySem.W.findIn K (.ref C) "__getitem__" = some (some (.ref f_t___getitem__)))
    (i_t___getitem__ : PySem.W.isFn K (.ref f_t___getitem__) = true)
    (n_t___getitem__ : PySem.W.fnIn K f_t___getitem__ = true)
    (l_t___getitem__ : K.lookup f_t___getitem__ = some ⟨oc_t___getitem__, od_t___getitem__, .func (PySem.W.fnOf "__getitem__" "Tree.__getitem__" (defArgs s_t___getitem__) (defBody s_t___getitem__) (defScope s_t___getitem__) .none kV_t___getitem__ dc_t___getitem__ pm_t___getitem__ an_t___getitem__ cd_t___getitem__ ct_t___getitem__), sl_t___getitem__⟩)
    (c_t___getitem__ : PySem.W.codeIn K cd_t___getitem__ "Tree.__getitem__" = true)
    (k_t___getitem__ : PySem.W.keepIn K (.ref f_t___getitem__) = true)
    (a_t_parent : PySem.W.findIn K (.ref C) "parent" = some (some (.ref f_t_parent)))
    (i_t_parent : PySem.W.isFn K (.ref f_t_parent) = true)
    (l_t_parent : K.lookup f_t_parent = some ⟨oc_t_parent, od_t_parent, .func (PySem.W.fnOf "parent" "Tree.parent" (defArgs s_t_parent) (defBody s_t_parent) (defScope s_t_parent) .none kV_t_parent dc_t_parent pm_t_parent an_t_parent cd_t_parent ct_t_parent), sl_t_parent⟩)
    (c_t_parent : PySem.W.codeIn K cd_t_parent "Tree.parent" = true)
    (k_t_parent : PySem.W.keepIn K (.ref f_t_parent) = true)
    (a_all_closed : PySem.W.nsIn K mainGlobals "all_closed" = some (some (.ref f_all_closed)))
    (l_all_closed : K.lookup f_all_closed = some ⟨oc_all_closed, od_all_closed, .func (PySem.W.fnOf "all_closed" "all_closed" (defArgs s_all_closed) (defBody s_all_closed) (defScope s_all_closed) .none kV_all_closed dc_all_closed pm_all_closed an_all_closed cd_all_closed ct_all_closed), sl_all_closed⟩)
    (c_all_closed : PySem.W.codeIn K cd_all_closed "all_closed" = true)
    (k_all_closed : PySem.W.keepIn K (.ref f_all_closed) = true)
    (a_closed_sets : PySem.W.nsIn K mainGlobals "closed_sets" = some (some (.ref f_closed_sets)))
    (l_closed_sets : K.lookup f_closed_sets = some ⟨oc_closed_sets, od_closed_sets, .func (PySem.W.fnOf "closed_sets" "closed_sets" (defArgs s_closed_sets) (defBody s_closed_sets) (defScope s_closed_sets) .none (.ref D_closed_sets) dc_closed_sets pm_closed_sets an_closed_sets cd_closed_sets ct_closed_sets), sl_closed_sets⟩)
    (c_closed_sets : PySem.W.codeIn K cd_closed_sets "closed_sets" = true)
    (k_closed_sets : PySem.W.keepIn K (.ref f_closed_sets) = true)
    {tk_closed_sets : Tok}
    (w_closed_sets : PySem.W.nsIn K D_closed_sets "arms" = some (some (.int 2 tk_closed_sets)))
    (a_many_closed : PySem.W.nsIn K mainGlobals "many_closed" = some (some (.ref f_many_closed)))
    (l_many_closed : K.lookup f_many_closed = some ⟨oc_many_closed, od_many_closed, .func (PySem.W.fnOf "many_closed" "many_closed" (defArgs s_many_closed) (defBody s_many_closed) (defScope s_many_closed) .none (.ref D_many_closed) dc_many_closed pm_many_closed an_many_closed cd_many_closed ct_many_closed), sl_many_closed⟩)
    (c_many_closed : PySem.W.codeIn K cd_many_closed "many_closed" = true)
    (k_many_closed : PySem.W.keepIn K (.ref f_many_closed) = true)
    {tk_many_closed : Tok}
    (w_many_closed : PySem.W.nsIn K D_many_closed "arms" = some (some (.int 2 tk_many_closed)))
    (a_closed_at : PySem.W.nsIn K mainGlobals "closed_at" = some (some (.ref f_closed_at)))
    (l_closed_at : K.lookup f_closed_at = some ⟨oc_closed_at, od_closed_at, .func (PySem.W.fnOf "closed_at" "closed_at" (defArgs s_closed_at) (defBody s_closed_at) (defScope s_closed_at) .none (.ref D_closed_at) dc_closed_at pm_closed_at an_closed_at cd_closed_at ct_closed_at), sl_closed_at⟩)
    (c_closed_at : PySem.W.codeIn K cd_closed_at "closed_at" = true)
    (k_closed_at : PySem.W.keepIn K (.ref f_closed_at) = true)
    {tk_closed_at : Tok}
    (w_closed_at : PySem.W.nsIn K D_closed_at "arms" = some (some (.int 2 tk_closed_at)))
    (a_is_closed : PySem.W.nsIn K mainGlobals "is_closed" = some (some (.ref f_is_closed)))
    (l_is_closed : K.lookup f_is_closed = some ⟨oc_is_closed, od_is_closed, .func (PySem.W.fnOf "is_closed" "is_closed" (defArgs s_is_closed) (defBody s_is_closed) (defScope s_is_closed) .none (.ref D_is_closed) dc_is_closed pm_is_closed an_is_closed cd_is_closed ct_is_closed), sl_is_closed⟩)
    (c_is_closed : PySem.W.codeIn K cd_is_closed "is_closed" = true)
    (k_is_closed : PySem.W.keepIn K (.ref f_is_closed) = true)
    {tk_is_closed : Tok}
    (w_is_closed : PySem.W.nsIn K D_is_closed "arms" = some (some (.int 2 tk_is_closed)))
    (a_check_closed : PySem.W.nsIn K mainGlobals "check_closed" = some (some (.ref f_check_closed)))
    (l_check_closed : K.lookup f_check_closed = some ⟨oc_check_closed, od_check_closed, .func (PySem.W.fnOf "check_closed" "check_closed" (defArgs s_check_closed) (defBody s_check_closed) (defScope s_check_closed) .none kV_check_closed dc_check_closed pm_check_closed an_check_closed cd_check_closed ct_check_closed), sl_check_closed⟩)
    (c_check_closed : PySem.W.codeIn K cd_check_closed "check_closed" = true)
    (k_check_closed : PySem.W.keepIn K (.ref f_check_closed) = true)
    (a_closed_index : PySem.W.nsIn K mainGlobals "closed_index" = some (some (.ref f_closed_index)))
    (l_closed_index : K.lookup f_closed_index = some ⟨oc_closed_index, od_closed_index, .func (PySem.W.fnOf "closed_index" "closed_index" (defArgs s_closed_index) (defBody s_closed_index) (defScope s_closed_index) .none (.ref D_closed_index) dc_closed_index pm_closed_index an_closed_index cd_closed_index ct_closed_index), sl_closed_index⟩)
    (c_closed_index : PySem.W.codeIn K cd_closed_index "closed_index" = true)
    (k_closed_index : PySem.W.keepIn K (.ref f_closed_index) = true)
    {tk_closed_index : Tok}
    (w_closed_index : PySem.W.nsIn K D_closed_index "arms" = some (some (.int 2 tk_closed_index)))
    (a_row_by_order : PySem.W.nsIn K mainGlobals "row_by_order" = some (some (.ref f_row_by_order)))
    (l_row_by_order : K.lookup f_row_by_order = some ⟨oc_row_by_order, od_row_by_order, .func (PySem.W.fnOf "row_by_order" "row_by_order" (defArgs s_row_by_order) (defBody s_row_by_order) (defScope s_row_by_order) .none kV_row_by_order dc_row_by_order pm_row_by_order an_row_by_order cd_row_by_order ct_row_by_order), sl_row_by_order⟩)
    (c_row_by_order : PySem.W.codeIn K cd_row_by_order "row_by_order" = true)
    (k_row_by_order : PySem.W.keepIn K (.ref f_row_by_order) = true)
    (a_heap_with : PySem.W.nsIn K mainGlobals "heap_with" = some (some (.ref f_heap_with)))
    (l_heap_with : K.lookup f_heap_with = some ⟨oc_heap_with, od_heap_with, .func (PySem.W.fnOf "heap_with" "heap_with" (defArgs s_heap_with) (defBody s_heap_with) (defScope s_heap_with) .none (.ref D_heap_with) dc_heap_with pm_heap_with an_heap_with cd_heap_with ct_heap_with), sl_heap_with⟩)
    (c_heap_with : PySem.W.codeIn K cd_heap_with "heap_with" = true)
    (k_heap_with : PySem.W.keepIn K (.ref f_heap_with) = true)
    {tk_heap_with : Tok}
    (w_heap_with : PySem.W.nsIn K D_heap_with "arms" = some (some (.int 2 tk_heap_with)))
    (a__law_number : PySem.W.nsIn K mainGlobals "_law_number" = some (some (.ref f__law_number)))
    (l__law_number : K.lookup f__law_number = some ⟨oc__law_number, od__law_number, .func (PySem.W.fnOf "_law_number" "_law_number" (defArgs s__law_number) (defBody s__law_number) (defScope s__law_number) .none kV__law_number dc__law_number pm__law_number an__law_number cd__law_number ct__law_number), sl__law_number⟩)
    (c__law_number : PySem.W.codeIn K cd__law_number "_law_number" = true)
    (k__law_number : PySem.W.keepIn K (.ref f__law_number) = true)
    (a__law_parts : PySem.W.nsIn K mainGlobals "_law_parts" = some (some (.ref f__law_parts)))
    (l__law_parts : K.lookup f__law_parts = some ⟨oc__law_parts, od__law_parts, .func (PySem.W.fnOf "_law_parts" "_law_parts" (defArgs s__law_parts) (defBody s__law_parts) (defScope s__law_parts) .none kV__law_parts dc__law_parts pm__law_parts an__law_parts cd__law_parts ct__law_parts), sl__law_parts⟩)
    (c__law_parts : PySem.W.codeIn K cd__law_parts "_law_parts" = true)
    (k__law_parts : PySem.W.keepIn K (.ref f__law_parts) = true)
    (a__law_closed : PySem.W.nsIn K mainGlobals "_law_closed" = some (some (.ref f__law_closed)))
    (l__law_closed : K.lookup f__law_closed = some ⟨oc__law_closed, od__law_closed, .func (PySem.W.fnOf "_law_closed" "_law_closed" (defArgs s__law_closed) (defBody s__law_closed) (defScope s__law_closed) .none kV__law_closed dc__law_closed pm__law_closed an__law_closed cd__law_closed ct__law_closed), sl__law_closed⟩)
    (c__law_closed : PySem.W.codeIn K cd__law_closed "_law_closed" = true)
    (k__law_closed : PySem.W.keepIn K (.ref f__law_closed) = true)
    (a__law_is_heap : PySem.W.nsIn K mainGlobals "_law_is_heap" = some (some (.ref f__law_is_heap)))
    (l__law_is_heap : K.lookup f__law_is_heap = some ⟨oc__law_is_heap, od__law_is_heap, .func (PySem.W.fnOf "_law_is_heap" "_law_is_heap" (defArgs s__law_is_heap) (defBody s__law_is_heap) (defScope s__law_is_heap) .none kV__law_is_heap dc__law_is_heap pm__law_is_heap an__law_is_heap cd__law_is_heap ct__law_is_heap), sl__law_is_heap⟩)
    (c__law_is_heap : PySem.W.codeIn K cd__law_is_heap "_law_is_heap" = true)
    (k__law_is_heap : PySem.W.keepIn K (.ref f__law_is_heap) = true)
    (a__law_others_right : PySem.W.nsIn K mainGlobals "_law_others_right" = some (some (.ref f__law_others_right)))
    (l__law_others_right : K.lookup f__law_others_right = some ⟨oc__law_others_right, od__law_others_right, .func (PySem.W.fnOf "_law_others_right" "_law_others_right" (defArgs s__law_others_right) (defBody s__law_others_right) (defScope s__law_others_right) .none kV__law_others_right dc__law_others_right pm__law_others_right an__law_others_right cd__law_others_right ct__law_others_right), sl__law_others_right⟩)
    (c__law_others_right : PySem.W.codeIn K cd__law_others_right "_law_others_right" = true)
    (k__law_others_right : PySem.W.keepIn K (.ref f__law_others_right) = true)
    (a_law : PySem.W.nsIn K mainGlobals "law" = some (some (.ref f_law)))
    (l_law : K.lookup f_law = some ⟨oc_law, od_law, .func (PySem.W.fnOf "law" "law" (defArgs s_law) (defBody s_law) (defScope s_law) .none kV_law dc_law pm_law an_law cd_law ct_law), sl_law⟩)
    (c_law : PySem.W.codeIn K cd_law "law" = true)
    (k_law : PySem.W.keepIn K (.ref f_law) = true)
    {tc_MOST_ARMS : Tok}
    (q_MOST_ARMS : PySem.W.nsIn K mainGlobals "MOST_ARMS" = some (some (.int 4 tc_MOST_ARMS)))
    {tc_MOST_PLACES : Tok}
    (q_MOST_PLACES : PySem.W.nsIn K mainGlobals "MOST_PLACES" = some (some (.int 12 tc_MOST_PLACES)))
    {tc_GREATEST_KEY : Tok}
    (q_GREATEST_KEY : PySem.W.nsIn K mainGlobals "GREATEST_KEY" = some (some (.int 1000000000 tc_GREATEST_KEY)))
    (z_isinstance : PySem.W.nsIn K mainGlobals "isinstance" = some none)
    (z_int : PySem.W.nsIn K mainGlobals "int" = some none)
    (z_bool : PySem.W.nsIn K mainGlobals "bool" = some none)
    (z_len : PySem.W.nsIn K mainGlobals "len" = some none)
    (z_tuple : PySem.W.nsIn K mainGlobals "tuple" = some none)
    (z_list : PySem.W.nsIn K mainGlobals "list" = some none)
    (z_range : PySem.W.nsIn K mainGlobals "range" = some none)
    (z_enumerate : PySem.W.nsIn K mainGlobals "enumerate" = some none)
    (z_iter : PySem.W.nsIn K mainGlobals "iter" = some none)
    (z_sum : PySem.W.nsIn K mainGlobals "sum" = some none)
    (z_all : PySem.W.nsIn K mainGlobals "all" = some none)
    (z_any : PySem.W.nsIn K mainGlobals "any" = some none)
    (z_sorted : PySem.W.nsIn K mainGlobals "sorted" = some none)
    (z_set : PySem.W.nsIn K mainGlobals "set" = some none)
    (pg : PySem.W.plainGet K C Str.empty = true)
    (hd : PySem.W.hasDictIn K C = true)
    (po_ : PySem.W.plainOver K C = true)
    (sa : PySem.W.findIn K (.ref C) "__setattr__" = some (some (.builtin "object.__setattr__")))
    (na_nMany : PySem.W.findIn K (.ref C) "many" = some none)
    (na_nArms : PySem.W.findIn K (.ref C) "arms" = some none)
    (na_nPl : PySem.W.findIn K (.ref C) "_places" = some none)
    (mk : PySem.W.makesIn K C = true)
    (kc : PySem.W.keepIn K (.ref C) = true)
    (rd : PySem.W.readsIn K C (.type "type") = true)
    (ga : PySem.W.specialIn K (.ref C) "__getattribute__" = some (some (.builtin "type.__getattribute__")))
    : ∃ fd : FuncData, (∀ (s : Shared) (v : Value), BindsTo s fd ⟨[v], []⟩ [("script", v)]) ∧ ∀ base : Heap, K.In base → base.Ns mainGlobals mg → FnOk l.prog w K mg base CX0 12 fa fd ["script"] (spLaw K) := by
  have e := hfa.symm.trans (PySem.W.mg_of X G a_law)
  cases e
  let A : Ad := { f_is_integer := f_is_integer, d_is_integer := (PySem.W.fnOf "is_integer" "is_integer" (defArgs s_is_integer) (defBody s_is_integer) (defScope s_is_integer) .none kV_is_integer dc_is_integer pm_is_integer an_is_integer cd_is_integer ct_is_integer), f_is_integer_from := f_is_integer_from, d_is_integer_from := (PySem.W.fnOf "is_integer_from" "is_integer_from" (defArgs s_is_integer_from) (defBody s_is_integer_from) (defScope s_is_integer_from) .none kV_is_integer_from dc_is_integer_from pm_is_integer_from an_is_integer_from cd_is_integer_from ct_is_integer_from), f_is_key := f_is_key, d_is_key := (PySem.W.fnOf "is_key" "is_key" (defArgs s_is_key) (defBody s_is_key) (defScope s_is_key) .none kV_is_key dc_is_key pm_is_key an_is_key cd_is_key ct_is_key), f_is_set_of_places := f_is_set_of_places, d_is_set_of_places := (PySem.W.fnOf "is_set_of_places" "is_set_of_places" (defArgs s_is_set_of_places) (defBody s_is_set_of_places) (defScope s_is_set_of_places) .none kV_is_set_of_places dc_is_set_of_places pm_is_set_of_places an_is_set_of_places cd_is_set_of_places ct_is_set_of_places), f_check_arms := f_check_arms, d_check_arms := (PySem.W.fnOf "check_arms" "check_arms" (defArgs s_check_arms) (defBody s_check_arms) (defScope s_check_arms) .none kV_check_arms dc_check_arms pm_check_arms an_check_arms cd_check_arms ct_check_arms), f_check_many := f_check_many, d_check_many := (PySem.W.fnOf "check_many" "check_many" (defArgs s_check_many) (defBody s_check_many) (defScope s_check_many) .none kV_check_many dc_check_many pm_check_many an_check_many cd_check_many ct_check_many), f_check_place := f_check_place, d_check_place := (PySem.W.fnOf "check_place" "check_place" (defArgs s_check_place) (defBody s_check_place) (defScope s_check_place) .none kV_check_place dc_check_place pm_check_place an_check_place cd_check_place ct_check_place), f_check_index := f_check_index, d_check_index := (PySem.W.fnOf "check_index" "check_index" (defArgs s_check_index) (defBody s_check_index) (defScope s_check_index) .none kV_check_index dc_check_index pm_check_index an_check_index cd_check_index ct_check_index), f_check_count := f_check_count, d_check_count := (PySem.W.fnOf "check_count" "check_count" (defArgs s_check_count) (defBody s_check_count) (defScope s_check_count) .none kV_check_count dc_check_count pm_check_count an_check_count cd_check_count ct_check_count), f_row_of := f_row_of, d_row_of := (PySem.W.fnOf "row_of" "row_of" (defArgs s_row_of) (defBody s_row_of) (defScope s_row_of) .none kV_row_of dc_row_of pm_row_of an_row_of cd_row_of ct_row_of), f_t___init__ := f_t___init__, d_t___init__ := (PySem.W.fnOf "__init__" "Tree.__init__" (defArgs s_t___init__) (defBody s_t___init__) (defScope s_t___init__) .none (.ref D_t___init__) dc_t___init__ pm_t___init__ an_t___init__ cd_t___init__ ct_t___init__), f_t_of := f_t_of, d_t_of := (PySem.W.fnOf "of" "Tree.of" (defArgs s_t_of) (defBody s_t_of) (defScope s_t_of) .none (.ref D_t_of) dc_t_of pm_t_of an_t_of cd_t_of ct_t_of), f_t___len__ := f_t___len__, d_t___len__ := (PySem.W.fnOf "__len__" "Tree.__len__" (defArgs s_t___len__) (defBody s_t___len__) (defScope s_t___len__) .none kV_t___len__ dc_t___len__ pm_t___len__ an_t___len__ cd_t___len__ ct_t___len__), f_t___iter__ := f_t___iter__, d_t___iter__ := (PySem.W.fnOf "__iter__" "Tree.__iter__" (defArgs s_t___iter__) (defBody s_t___iter__) (defScope s_t___iter__) .none kV_t___iter__ dc_t___iter__ pm_t___iter__ an_t___iter__ cd_t___iter__ ct_t___iter__), f_t___getitem__ := f_t___getitem__, d_t___getitem__ := (PySem.W.fnOf "__getitem__" "Tree.__getitem__" (defArgs s_t___getitem__) (defBody s_t___getitem__) (defScope s_t___getitem__) .none kV_t___getitem__ dc_t___getitem__ pm_t___getitem__ an_t___getitem__ cd_t___getitem__ ct_t___getitem__), f_t_parent := f_t_parent, d_t_parent := (PySem.W.fnOf "parent" "Tree.parent" (defArgs s_t_parent) (defBody s_t_parent) (defScope s_t_parent) .none kV_t_parent dc_t_parent pm_t_parent an_t_parent cd_t_parent ct_t_parent), f_all_closed := f_all_closed, d_all_closed := (PySem.W.fnOf "all_closed" "all_closed" (defArgs s_all_closed) (defBody s_all_closed) (defScope s_all_closed) .none kV_all_closed dc_all_closed pm_all_closed an_all_closed cd_all_closed ct_all_closed), f_closed_sets := f_closed_sets, d_closed_sets := (PySem.W.fnOf "closed_sets" "closed_sets" (defArgs s_closed_sets) (defBody s_closed_sets) (defScope s_closed_sets) .none (.ref D_closed_sets) dc_closed_sets pm_closed_sets an_closed_sets cd_closed_sets ct_closed_sets), f_many_closed := f_many_closed, d_many_closed := (PySem.W.fnOf "many_closed" "many_closed" (defArgs s_many_closed) (defBody s_many_closed) (defScope s_many_closed) .none (.ref D_many_closed) dc_many_closed pm_many_closed an_many_closed cd_many_closed ct_many_closed), f_closed_at := f_closed_at, d_closed_at := (PySem.W.fnOf "closed_at" "closed_at" (defArgs s_closed_at) (defBody s_closed_at) (defScope s_closed_at) .none (.ref D_closed_at) dc_closed_at pm_closed_at an_closed_at cd_closed_at ct_closed_at), f_is_closed := f_is_closed, d_is_closed := (PySem.W.fnOf "is_closed" "is_closed" (defArgs s_is_closed) (defBody s_is_closed) (defScope s_is_closed) .none (.ref D_is_closed) dc_is_closed pm_is_closed an_is_closed cd_is_closed ct_is_closed), f_check_closed := f_check_closed, d_check_closed := (PySem.W.fnOf "check_closed" "check_closed" (defArgs s_check_closed) (defBody s_check_closed) (defScope s_check_closed) .none kV_check_closed dc_check_closed pm_check_closed an_check_closed cd_check_closed ct_check_closed), f_closed_index := f_closed_index, d_closed_index := (PySem.W.fnOf "closed_index" "closed_index" (defArgs s_closed_index) (defBody s_closed_index) (defScope s_closed_index) .none (.ref D_closed_index) dc_closed_index pm_closed_index an_closed_index cd_closed_index ct_closed_index), f_row_by_order := f_row_by_order, d_row_by_order := (PySem.W.fnOf "row_by_order" "row_by_order" (defArgs s_row_by_order) (defBody s_row_by_order) (defScope s_row_by_order) .none kV_row_by_order dc_row_by_order pm_row_by_order an_row_by_order cd_row_by_order ct_row_by_order), f_heap_with := f_heap_with, d_heap_with := (PySem.W.fnOf "heap_with" "heap_with" (defArgs s_heap_with) (defBody s_heap_with) (defScope s_heap_with) .none (.ref D_heap_with) dc_heap_with pm_heap_with an_heap_with cd_heap_with ct_heap_with), f__law_number := f__law_number, d__law_number := (PySem.W.fnOf "_law_number" "_law_number" (defArgs s__law_number) (defBody s__law_number) (defScope s__law_number) .none kV__law_number dc__law_number pm__law_number an__law_number cd__law_number ct__law_number), f__law_parts := f__law_parts, d__law_parts := (PySem.W.fnOf "_law_parts" "_law_parts" (defArgs s__law_parts) (defBody s__law_parts) (defScope s__law_parts) .none kV__law_parts dc__law_parts pm__law_parts an__law_parts cd__law_parts ct__law_parts), f__law_closed := f__law_closed, d__law_closed := (PySem.W.fnOf "_law_closed" "_law_closed" (defArgs s__law_closed) (defBody s__law_closed) (defScope s__law_closed) .none kV__law_closed dc__law_closed pm__law_closed an__law_closed cd__law_closed ct__law_closed), f__law_is_heap := f__law_is_heap, d__law_is_heap := (PySem.W.fnOf "_law_is_heap" "_law_is_heap" (defArgs s__law_is_heap) (defBody s__law_is_heap) (defScope s__law_is_heap) .none kV__law_is_heap dc__law_is_heap pm__law_is_heap an__law_is_heap cd__law_is_heap ct__law_is_heap), f__law_others_right := f__law_others_right, d__law_others_right := (PySem.W.fnOf "_law_others_right" "_law_others_right" (defArgs s__law_others_right) (defBody s__law_others_right) (defScope s__law_others_right) .none kV__law_others_right dc__law_others_right pm__law_others_right an__law_others_right cd__law_others_right ct__law_others_right), f_law := fa, d_law := (PySem.W.fnOf "law" "law" (defArgs s_law) (defBody s_law) (defScope s_law) .none kV_law dc_law pm_law an_law cd_law ct_law), C := C, po := po }
  have T : Tx K mg A := {
    F_is_integer := (fun_mk (st := s_is_integer) l_is_integer c_is_integer k_is_integer)
    m_is_integer := PySem.W.mg_of X G a_is_integer
    F_is_integer_from := (fun_mk (st := s_is_integer_from) l_is_integer_from c_is_integer_from k_is_integer_from)
    m_is_integer_from := PySem.W.mg_of X G a_is_integer_from
    F_is_key := (fun_mk (st := s_is_key) l_is_key c_is_key k_is_key)
    m_is_key := PySem.W.mg_of X G a_is_key
    F_is_set_of_places := (fun_mk (st := s_is_set_of_places) l_is_set_of_places c_is_set_of_places k_is_set_of_places)
    m_is_set_of_places := PySem.W.mg_of X G a_is_set_of_places
    F_check_arms := (fun_mk (st := s_check_arms) l_check_arms c_check_arms k_check_arms)
    m_check_arms := PySem.W.mg_of X G a_check_arms
    F_check_many := (fun_mk (st := s_check_many) l_check_many c_check_many k_check_many)
    m_check_many := PySem.W.mg_of X G a_check_many
    F_check_place := (fun_mk (st := s_check_place) l_check_place c_check_place k_check_place)
    m_check_place := PySem.W.mg_of X G a_check_place
    F_check_index := (fun_mk (st := s_check_index) l_check_index c_check_index k_check_index)
    m_check_index := PySem.W.mg_of X G a_check_index
    F_check_count := (fun_mk (st := s_check_count) l_check_count c_check_count k_check_count)
    m_check_count := PySem.W.mg_of X G a_check_count
    F_row_of := (fun_mk (st := s_row_of) l_row_of c_row_of k_row_of)
    m_row_of := PySem.W.mg_of X G a_row_of
    F_t___init__ := ⟨⟨_, _, _, _, _, _, _, _, _, _, rfl, l_t___init__, c_t___init__, .inl ⟨rfl, rfl⟩, .inr ⟨_, rfl, fun q hq => by rw [List.mem_singleton.mp hq]; exact ⟨_, w_t___init__, relI _ _⟩⟩⟩, k_t___init__⟩
    F_t_of := ⟨⟨_, _, _, _, _, _, _, _, _, _, rfl, l_t_of, c_t_of, .inl ⟨rfl, rfl⟩, .inr ⟨_, rfl, fun q hq => by rw [List.mem_singleton.mp hq]; exact ⟨_, w_t_of, relI _ _⟩⟩⟩, k_t_of⟩
    F_t___len__ := (fun_mk (st := s_t___len__) l_t___len__ c_t___len__ k_t___len__)
    D_t___len__ := ⟨a_t___len__, i_t___len__, n_t___len__⟩
    F_t___iter__ := (fun_mk (st := s_t___iter__) l_t___iter__ c_t___iter__ k_t___iter__)
    D_t___iter__ := ⟨a_t___iter__, i_t___iter__, n_t___iter__⟩
    F_t___getitem__ := (fun_mk (st := s_t___getitem__) l_t___getitem__ c_t___getitem__ k_t___getitem__)
    D_t___getitem__ := ⟨a_t___getitem__, i_t___getitem__, n_t___getitem__⟩
    F_t_parent := (fun_mk (st := s_t_parent) l_t_parent c_t_parent k_t_parent)
    M_t_parent := ⟨a_t_parent, i_t_parent, k_t_parent⟩
    F_all_closed := (fun_mk (st := s_all_closed) l_all_closed c_all_closed k_all_closed)
    m_all_closed := PySem.W.mg_of X G a_all_closed
    F_closed_sets := ⟨⟨_, _, _, _, _, _, _, _, _, _, rfl, l_closed_sets, c_closed_sets, .inl ⟨rfl, rfl⟩, .inr ⟨_, rfl, fun q hq => by rw [List.mem_singleton.mp hq]; exact ⟨_, w_closed_sets, relI _ _⟩⟩⟩, k_closed_sets⟩
    m_closed_sets := PySem.W.mg_of X G a_closed_sets
    F_many_closed := ⟨⟨_, _, _, _, _, _, _, _, _, _, rfl, l_many_closed, c_many_closed, .inl ⟨rfl, rfl⟩, .inr ⟨_, rfl, fun q hq => by rw [List.mem_singleton.mp hq]; exact ⟨_, w_many_closed, relI _ _⟩⟩⟩, k_many_closed⟩
    m_many_closed := PySem.W.mg_of X G a_many_closed
    F_closed_at := ⟨⟨_, _, _, _, _, _, _, _, _, _, rfl, l_closed_at, c_closed_at, .inl ⟨rfl, rfl⟩, .inr ⟨_, rfl, fun q hq => by rw [List.mem_singleton.mp hq]; exact ⟨_, w_closed_at, relI _ _⟩⟩⟩, k_closed_at⟩
    m_closed_at := PySem.W.mg_of X G a_closed_at
    F_is_closed := ⟨⟨_, _, _, _, _, _, _, _, _, _, rfl, l_is_closed, c_is_closed, .inl ⟨rfl, rfl⟩, .inr ⟨_, rfl, fun q hq => by rw [List.mem_singleton.mp hq]; exact ⟨_, w_is_closed, relI _ _⟩⟩⟩, k_is_closed⟩
    m_is_closed := PySem.W.mg_of X G a_is_closed
    F_check_closed := (fun_mk (st := s_check_closed) l_check_closed c_check_closed k_check_closed)
    m_check_closed := PySem.W.mg_of X G a_check_closed
    F_closed_index := ⟨⟨_, _, _, _, _, _, _, _, _, _, rfl, l_closed_index, c_closed_index, .inl ⟨rfl, rfl⟩, .inr ⟨_, rfl, fun q hq => by rw [List.mem_singleton.mp hq]; exact ⟨_, w_closed_index, relI _ _⟩⟩⟩, k_closed_index⟩
    m_closed_index := PySem.W.mg_of X G a_closed_index
    F_row_by_order := (fun_mk (st := s_row_by_order) l_row_by_order c_row_by_order k_row_by_order)
    m_row_by_order := PySem.W.mg_of X G a_row_by_order
    F_heap_with := ⟨⟨_, _, _, _, _, _, _, _, _, _, rfl, l_heap_with, c_heap_with, .inl ⟨rfl, rfl⟩, .inr ⟨_, rfl, fun q hq => by rw [List.mem_singleton.mp hq]; exact ⟨_, w_heap_with, relI _ _⟩⟩⟩, k_heap_with⟩
    m_heap_with := PySem.W.mg_of X G a_heap_with
    F__law_number := (fun_mk (st := s__law_number) l__law_number c__law_number k__law_number)
    m__law_number := PySem.W.mg_of X G a__law_number
    F__law_parts := (fun_mk (st := s__law_parts) l__law_parts c__law_parts k__law_parts)
    m__law_parts := PySem.W.mg_of X G a__law_parts
    F__law_closed := (fun_mk (st := s__law_closed) l__law_closed c__law_closed k__law_closed)
    m__law_closed := PySem.W.mg_of X G a__law_closed
    F__law_is_heap := (fun_mk (st := s__law_is_heap) l__law_is_heap c__law_is_heap k__law_is_heap)
    m__law_is_heap := PySem.W.mg_of X G a__law_is_heap
    F__law_others_right := (fun_mk (st := s__law_others_right) l__law_others_right c__law_others_right k__law_others_right)
    m__law_others_right := PySem.W.mg_of X G a__law_others_right
    F_law := (fun_mk (st := s_law) l_law c_law k_law)
    m_law := PySem.W.mg_of X G a_law
    c_MOST_ARMS := .inr ⟨_, PySem.W.mg_of X G q_MOST_ARMS⟩
    c_MOST_PLACES := .inr ⟨_, PySem.W.mg_of X G q_MOST_PLACES⟩
    c_GREATEST_KEY := .inr ⟨_, PySem.W.mg_of X G q_GREATEST_KEY⟩
    g_isinstance := PySem.W.mg_none_of X G z_isinstance
    g_int := PySem.W.mg_none_of X G z_int
    g_bool := PySem.W.mg_none_of X G z_bool
    g_len := PySem.W.mg_none_of X G z_len
    g_tuple := PySem.W.mg_none_of X G z_tuple
    g_list := PySem.W.mg_none_of X G z_list
    g_range := PySem.W.mg_none_of X G z_range
    g_enumerate := PySem.W.mg_none_of X G z_enumerate
    g_iter := PySem.W.mg_none_of X G z_iter
    g_sum := PySem.W.mg_none_of X G z_sum
    g_all := PySem.W.mg_none_of X G z_all
    g_any := PySem.W.mg_none_of X G z_any
    g_sorted := PySem.W.mg_none_of X G z_sorted
    g_set := PySem.W.mg_none_of X G z_set
    cT := ⟨pg, hd, po_, sa⟩
    nMany := na_nMany
    nArms := na_nArms
    nPl := na_nPl
    mC := PySem.W.mg_of X G aC
    mkC := ⟨mk, a_t___init__, i_t___init__, kc⟩
    cr := ⟨rd, ga⟩
    cof := ⟨a_t_of, ⟨_, r_t_of⟩, n_t_of⟩
  }
  exact ⟨A.d_law, fun s v => .of_eq rfl, fun base _ _ => ok_law T⟩
theorem walk {l : PySem.W.OpenLaw} {q : Program} {loose : List Str} {XP : (Str → Option Value) → Heap → Prop} {YP : World → Heap → Prop} {d : DefRec} {K : Params → PySem.W.Frag} (hn : l.most = some 63) (hdf : d.params.defaults = [])
    (hY : ∀ (w : World) (h : Heap), YP w h → (K w.params).In h)
    (F : ∀ (w : World) (mg : Str → Option Value) (fa : Addr) (h : Heap), (K w.params).In h → h.Ns mainGlobals mg → mg d.name = some (.ref fa) →
      ∃ fd : FuncData, (∀ (s : Shared) (u : Value), BindsTo s fd ⟨[u], []⟩ [("script", u)]) ∧ ∀ base : Heap, (K w.params).In base → base.Ns mainGlobals mg → FnOk l.prog w (K w.params) mg base CX0 12 fa fd ["script"] (spLaw (K w.params))) :
    PySem.W.WalkO q loose XP YP l.row.toRowW d [] (fun f vs => PySem.call f vs) :=
  L2.walk_of (n := 63) (k := 12) (x := "script") (CX := fun _ => CX0) (sp := fun w => spLaw (K w.params)) hn (by decide) hdf ⟨rfl, by decide, by decide⟩ hY F (fun _ _ a ns hl _ hS => ⟨a, ns, rfl, hS, hl, fun _ => rfl⟩) fun _ _ _ _ _ z => z
end Tw

open PySem PySem.W PyProof.Rows in
set_option maxRecDepth 100000 in
set_option maxHeartbeats 0 in
theorem PySem.Challenge.cw_heaprows_k52_whole_closed_sets_holds : PySem.Challenge.rw_heaprows_k52_whole_closed_sets.Holds := by
  w_on; o_law; k_head; (case hw => w_witness2)
  k_fill
  refine Tw.walk (l := PySem.Challenge.rw_heaprows_k52_whole_closed_sets) rfl rfl (fun w h Y => PySem.W.kIn_of Y) ?F
  case F =>
    intro w mg fa h KX G hmg
    refine' Tw.all_mk KX G hmg ?aC ?a_is_integer ?l_is_integer ?c_is_integer ?k_is_integer ?a_is_integer_from ?l_is_integer_from ?c_is_integer_from ?k_is_integer_from ?a_is_key ?l_is_key ?c_is_key ?k_is_key ?a_is_set_of_places ?l_is_set_of_places ?c_is_set_of_places ?k_is_set_of_places ?a_check_arms ?l_check_arms ?c_check_arms ?k_check_arms ?a_check_many ?l_check_many ?c_check_many ?k_check_many ?a_check_place ?l_check_place ?c_check_place ?k_check_place ?a_check_index ?l_check_index ?c_check_index ?k_check_index ?a_check_count ?l_check_count ?c_check_count ?k_check_count ?a_row_of ?l_row_of ?c_row_of ?k_row_of ?a_t___init__ ?i_t___init__ ?l_t___init__ ?c_t___init__ ?k_t___init__ ?w_t___init__ ?a_t_of ?r_t_of ?n_t_of ?l_t_of ?c_t_of ?k_t_of ?w_t_of ?a_t___len__ ?i_t___len__ ?n_t___len__ ?l_t___len__ ?c_t___len__ ?k_t___len__ ?a_t___iter__ ?i_t___iter__ ?n_t___iter__ ?l_t___iter__ ?c_t___iter__ ?k_t___iter__ ?a_t___getitem__ ?i_t___getitem__ ?n_t___getitem__ ?l_t___getitem__ ?c_t___getitem__ ?k_t___getitem__ ?a_t_parent ?i_t_parent ?l_t_parent ?c_t_parent ?k_t_parent ?a_all_closed ?l_all_closed ?c_all_closed ?k_all_closed ?a_closed_sets ?l_closed_sets ?c_closed_sets ?k_closed_sets ?w_closed_sets ?a_many_closed ?l_many_closed ?c_many_closed ?k_many_closed ?w_many_closed ?a_closed_at ?l_closed_at ?c_closed_at ?k_closed_at ?w_closed_at ?a_is_closed ?l_is_closed ?c_is_closed ?k_is_closed ?w_is_closed ?a_check_closed ?l_check_closed ?c_check_closed ?k_check_closed ?a_closed_index ?l_closed_index ?c_closed_index ?k_closed_index ?w_closed_index ?a_row_by_order ?l_row_by_order ?c_row_by_order ?k_row_by_order ?a_heap_with ?l_heap_with ?c_heap_with ?k_heap_with ?w_heap_with ?a__law_number ?l__law_number ?c__law_number ?k__law_number ?a__law_parts ?l__law_parts ?c__law_parts ?k__law_parts ?a__law_closed ?l__law_closed ?c__law_closed ?k__law_closed ?a__law_is_heap ?l__law_is_heap ?c__law_is_heap ?k__law_is_heap ?a__law_others_right ?l__law_others_right ?c__law_others_right ?k__law_others_right ?a_law ?l_law ?c_law ?k_law ?q_MOST_ARMS ?q_MOST_PLACES ?q_GREATEST_KEY ?z_isinstance ?z_int ?z_bool ?z_len ?z_tuple ?z_list ?z_range ?z_enumerate ?z_iter ?z_sum ?z_all ?z_any ?z_sorted ?z_set ?pg ?hd ?po_ ?sa ?na_nMany ?na_nArms ?na_nPl ?mk ?kc ?rd ?ga
    (case aC => k_is)
    (case a_is_integer => k_is)
    (case l_is_integer => k_is)
    (case c_is_integer => k_is)
    (case k_is_integer => k_is)
    (case a_is_integer_from => k_is)
    (case l_is_integer_from => k_is)
    (case c_is_integer_from => k_is)
    (case k_is_integer_from => k_is)
    (case a_is_key => k_is)
    (case l_is_key => k_is)
    (case c_is_key => k_is)
    (case k_is_key => k_is)
    (case a_is_set_of_places => k_is)
    (case l_is_set_of_places => k_is)
    (case c_is_set_of_places => k_is)
    (case k_is_set_of_places => k_is)
    (case a_check_arms => k_is)
    (case l_check_arms => k_is)
    (case c_check_arms => k_is)
    (case k_check_arms => k_is)
    (case a_check_many => k_is)
    (case l_check_many => k_is)
    (case c_check_many => k_is)
    (case k_check_many => k_is)
    (case a_check_place => k_is)
    (case l_check_place => k_is)
    (case c_check_place => k_is)
    (case k_check_place => k_is)
    (case a_check_index => k_is)
    (case l_check_index => k_is)
    (case c_check_index => k_is)
    (case k_check_index => k_is)
    (case a_check_count => k_is)
    (case l_check_count => k_is)
    (case c_check_count => k_is)
    (case k_check_count => k_is)
    (case a_row_of => k_is)
    (case l_row_of => k_is)
    (case c_row_of => k_is)
    (case k_row_of => k_is)
    (case a_t___init__ => k_is)
    (case i_t___init__ => k_is)
    (case l_t___init__ => k_is)
    (case c_t___init__ => k_is)
    (case k_t___init__ => k_is)
    (case w_t___init__ => k_is)
    (case a_t_of => k_is)
    (case r_t_of => k_is)
    (case n_t_of => k_is)
    (case l_t_of => k_is)
    (case c_t_of => k_is)
    (case k_t_of => k_is)
    (case w_t_of => k_is)
    (case a_t___len__ => k_is)
    (case i_t___len__ => k_is)
    (case n_t___len__ => k_is)
    (case l_t___len__ => k_is)
    (case c_t___len__ => k_is)
    (case k_t___len__ => k_is)
    (case a_t___iter__ => k_is)
    (case i_t___iter__ => k_is)
    (case n_t___iter__ => k_is)
    (case l_t___iter__ => k_is)
    (case c_t___iter__ => k_is)
    (case k_t___iter__ => k_is)
    (case a_t___getitem__ => k_is)
    (case i_t___getitem__ => k_is)
    (case n_t___getitem__ => k_is)
    (case l_t___getitem__ => k_is)
    (case c_t___getitem__ => k_is)
    (case k_t___getitem__ => k_is)
    (case a_t_parent => k_is)
    (case i_t_parent => k_is)
    (case l_t_parent => k_is)
    (case c_t_parent => k_is)
    (case k_t_parent => k_is)
    (case a_all_closed => k_is)
    (case l_all_closed => k_is)
    (case c_all_closed => k_is)
    (case k_all_closed => k_is)
    (case a_closed_sets => k_is)
    (case l_closed_sets => k_is)
    (case c_closed_sets => k_is)
    (case k_closed_sets => k_is)
    (case w_closed_sets => k_is)
    (case a_many_closed => k_is)
    (case l_many_closed => k_is)
    (case c_many_closed => k_is)
    (case k_many_closed => k_is)
    (case w_many_closed => k_is)
    (case a_closed_at => k_is)
    (case l_closed_at => k_is)
    (case c_closed_at => k_is)
    (case k_closed_at => k_is)
    (case w_closed_at => k_is)
    (case a_is_closed => k_is)
    (case l_is_closed => k_is)
    (case c_is_closed => k_is)
    (case k_is_closed => k_is)
    (case w_is_closed => k_is)
    (case a_check_closed => k_is)
    (case l_check_closed => k_is)
    (case c_check_closed => k_is)
    (case k_check_closed => k_is)
    (case a_closed_index => k_is)
    (case l_closed_index => k_is)
    (case c_closed_index => k_is)
    (case k_closed_index => k_is)
    (case w_closed_index => k_is)
    (case a_row_by_order => k_is)
    (case l_row_by_order => k_is)
    (case c_row_by_order => k_is)
    (case k_row_by_order => k_is)
    (case a_heap_with => k_is)
    (case l_heap_with => k_is)
    (case c_heap_with => k_is)
    (case k_heap_with => k_is)
    (case w_heap_with => k_is)
    (case a__law_number => k_is)
    (case l__law_number => k_is)
    (case c__law_number => k_is)
    (case k__law_number => k_is)
    (case a__law_parts => k_is)
    (case l__law_parts => k_is)
    (case c__law_parts => k_is)
    (case k__law_parts => k_is)
    (case a__law_closed => k_is)
    (case l__law_closed => k_is)
    (case c__law_closed => k_is)
    (case k__law_closed => k_is)
    (case a__law_is_heap => k_is)
    (case l__law_is_heap => k_is)
    (case c__law_is_heap => k_is)
    (case k__law_is_heap => k_is)
    (case a__law_others_right => k_is)
    (case l__law_others_right => k_is)
    (case c__law_others_right => k_is)
    (case k__law_others_right => k_is)
    (case a_law => k_is)
    (case l_law => k_is)
    (case c_law => k_is)
    (case k_law => k_is)
    (case q_MOST_ARMS => k_is)
    (case q_MOST_PLACES => k_is)
    (case q_GREATEST_KEY => k_is)
    (case z_isinstance => k_is)
    (case z_int => k_is)
    (case z_bool => k_is)
    (case z_len => k_is)
    (case z_tuple => k_is)
    (case z_list => k_is)
    (case z_range => k_is)
    (case z_enumerate => k_is)
    (case z_iter => k_is)
    (case z_sum => k_is)
    (case z_all => k_is)
    (case z_any => k_is)
    (case z_sorted => k_is)
    (case z_set => k_is)
    (case pg => k_is)
    (case hd => k_is)
    (case po_ => k_is)
    (case sa => k_is)
    (case na_nMany => k_is)
    (case na_nArms => k_is)
    (case na_nPl => k_is)
    (case mk => k_is)
    (case kc => k_is)
    (case rd => k_is)
    (case ga => k_is)
