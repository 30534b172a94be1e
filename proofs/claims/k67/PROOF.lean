import PyProof.Rows.All
import Wide.All
import OpenK.AllK
import Wide.FinOn
import HandS.ForMost
import HandS.ForExc
import HandS.IsInst
import HandS.MakeKwOnly
import HandS.ClsMeth
import HandS.Conv
import HandS.Codes
import HandS.Walk
import HandS.Style
import HandS.Flow
import HandS.Wide
import HandS.OwnEq
import HandS.OwnIter
import HandS.IterVal
import KE.KOwnIter
import PyProof.FactsAll.tuple_iterator_1
import HandS.Deep
import HandS.SortRule
import KE.GoesMore
import KE.GoesEnum
import KE.KLam
import KE.DataMinKey
import HandS.Base
import HandS.Call
import HandS.List
import HandS.Comp
import HandS.Lambda
import HandS.Nested
import HandS.Keys
import HandS.SortInts
import PyProof.NeKinds
import HandS.SetFor
import HandS.Strs
import HandS.TupSets
import KE.SortData
import HandS.Gcd
import KE.KMathGC
import HandS.Sort
import PyProof.AutoSeq1
import KE.KTurns
import HandS.TupLe
import KE.KSortTup
import HandS.Defaults
import HandS.Zip
import HandS.TryOnly
import HandS.TupAny
import KE.DataFind
import PyProof.SumWalkG
import KE.DataMinMax
import HandS.TupMul
import KE.KNestM
import HandS.EndTab
import HandS.Rev
import PySem.Challenge.RW_heaprows_k67_whole_fronts
set_option Elab.async false
set_option maxRecDepth 100000
set_option Elab.async false
set_option linter.all false
set_option maxRecDepth 100000
set_option maxHeartbeats 2000000
namespace Tw
open PySem PySem.Spec PyProof.Rows L2

/-! own rules: an instance with dunder methods -/
/-- a dunder method of the class at C, its def at f -/
structure Dn (K : PySem.W.Frag) (C : Addr) (m : Str) (f : Addr) : Prop where
  at_ : PySem.W.findIn K (.ref C) m = some (some (.ref f))
  fn : PySem.W.isFn K (.ref f) = true
  fi : PySem.W.fnIn K f = true


section
variable {X : Cx} {CX : CXT} {k n : Nat} {f C : Addr} {fd : FuncData} {ps : List Str} {sp : Sp} {E : XK} {o e : Expr} {pos : Pos} {ta tb : TE} {A1 : Around}
  {pins : List (Addr × Obj)} {σ : L2.St} {H : Hp} {s : Shared} {Q : VK}
theorem Sub.env0 (sb : Sub X n A1) (I : Inv X pins σ H s) : Env0 X.prog X.w X.K X.mg X.base A1 X.stack s H := by
  have q := I.env0
  exact ⟨by rw [sb.fr]; exact q.frames, q.mod, q.bs, q.bsz, q.funs, q.frf, q.hok, q.bare⟩
theorem run_sub {us : List Value} {vs : List V} (F : FnOk X.prog X.w X.K X.mg X.base CX k f fd ps sp) (sb : Sub X k A1) (hb : Binds X.K fd ps []) (hx : Passes CX X E) (I : Inv X pins σ H s) (r : Vals vs us) (h : sp vs H Q E) :
    wpAny (model X.prog X.w) A1 (call (.ref f) us) (EP X pins σ Q) X.xe s := by
  have hl : us.length = ps.length := by rw [← r.length]; exact F.len _ _ _ _ h
  have hb1 : BindsTo s fd ⟨us, []⟩ (ps.zip us) := by
    have z := hb s us I.kIn (by rw [List.append_nil]; exact hl)
    rw [List.append_nil] at z
    exact z
  refine wpAny_call (codeAny_mono (F.run A1 X.stack s H ⟨us, []⟩ us vs Q E sb.room (Sub.env0 sb I) hb1 r h) fun z s' hq => ?_)
  match z, hq with
  | .error e, hq => exact hx pins σ H s e s' I hq
  | .ok (.ret u), hq => exact I.after hq
  | .ok .next, hq => exact False.elim hq
  | .ok .brk, hq => exact False.elim hq
  | .ok .cont, hq => exact False.elim hq
theorem relR (a : Addr) : RelV (V.ref a) (Value.ref a) := rfl
theorem relB (b : Bool) : RelV (V.bl b) (Value.bool b) := rfl
theorem relI (i : Int) (t : Tok) : RelV (V.int i) (Value.int i t) := ⟨t, rfl⟩
/-- o[e] by the class's own def -/
def tGi (C : Addr) (sp : Sp) (E : XK) (ta tb : TE) : TE := fun σ H Q => ta σ H fun x H1 => tb σ H1 fun y H2 =>
  ∃ a dx fs, x = .ref a ∧ H2 a = some (.ins C dx fs) ∧ sp [.ref a, y] H2 Q E
theorem pe_gi (hd : Dn X.K C "__getitem__" f) (F : FnOk X.prog X.w X.K X.mg X.base CX k f fd ps sp) (hr : Room (k + 1) X.A) (hb : Binds X.K fd ps []) (hx : Passes CX X E) (ho : PE X o ta) (he : PE X e tb)
    (hs : ∀ v u, subscripted e true v u = runValue (.builtin "lifetime.subscript" ⟨[v, u], []⟩) := by intro _ _; with_unfolding_all rfl) :
    PE X (.Subscript o e pos) (tGi C sp E ta tb) := by
  refine ⟨fun pins s σ H Q I h => ?_⟩
  refine Subscript_ (binT ho he (R := fun x y H2 => ∃ a dx fs, x = .ref a ∧ H2 a = some (.ins C dx fs) ∧ sp [.ref a, y] H2 Q E) I h fun v u s2 x y H2 I2 rx ry ⟨a, dx, fs, ex, ha, q⟩ => ?_)
  subst ex
  obtain rfl : v = Value.ref a := rx
  obtain ⟨mA, O, rr, _, _, _⟩ := ins_get I2.hok ha
  obtain ⟨od, J, hl⟩ := O.look
  obtain ⟨m0, hF⟩ := I2.fr
  exact PySem.W.sub_K hF I2.ok.mod.kin J hd.at_ hd.fi hd.fn (run_sub F (Sub.in1 ⟨hr, rfl⟩) hb hx I2 (.cons (relR a) (.cons ry .nil)) q) (hs _ _)
/-- e in o, by the class's own def -/
def rIn (C : Addr) (sp : Sp) (E : XK) (neg : Bool) : R2 := fun x y H Q =>
  ∃ a dx fs, y = .ref a ∧ H a = some (.ins C dx fs) ∧ sp [.ref a, x] H (fun v H' => ∃ b, v = .bl b ∧ Q (.bl (if neg then !b else b)) H') E
theorem op_in_own (hd : Dn X.K C "__contains__" f) (F : FnOk X.prog X.w X.K X.mg X.base CX k f fd ps sp) (hr : Room k X.A) (hb : Binds X.K fd ps []) (hx : Passes CX X E) : OpR X (compareOp .In) (rIn C sp E false) := by
  intro pins s σ H x y v u Q I rx ry ⟨a, dx, fs, ey, ha, q⟩
  subst ey
  obtain rfl : u = Value.ref a := ry
  obtain ⟨mA, O, rr, _, _, _⟩ := ins_get I.hok ha
  obtain ⟨od, J, hl⟩ := O.look
  obtain ⟨m0, hF⟩ := I.fr
  refine PySem.W.in_K hF I.ok.mod.kin J hd.at_ hd.fn (thn (run_sub F ⟨hr, rfl⟩ hb hx I (.cons (relR a) (.cons rx .nil)) q) fun r s' ⟨z, H', I', rz, b, ez, q'⟩ => ?_)
  subst ez
  obtain rfl : r = Value.bool b := rz
  exact wpAny_truthy_bool ⟨_, _, I', relB b, q'⟩
/-- len(o) by the class's own def -/
def rLenO (C : Addr) (sp : Sp) (E : XK) : List V → Hp → VK → Prop := fun xs H Q =>
  ∃ a dx fs, xs = [.ref a] ∧ H a = some (.ins C dx fs) ∧ sp [.ref a] H (fun v H' => ∃ n : Nat, v = .int n ∧ n < 1000 ∧ Q (.int n) H') E
theorem call_len_own (hd : Dn X.K C "__len__" f) (F : FnOk X.prog X.w X.K X.mg X.base CX k f fd ps sp) (hr : Room (k + 1) X.A) (hb : Binds X.K fd ps []) (hx : Passes CX X E) : CallR X (.builtin "len") (rLenO C sp E) := by
  intro pins s σ H xs us Q I rv ⟨a, dx, fs, ex, ha, q⟩
  subst ex
  obtain ⟨u, rfl, ru⟩ := rv.one
  obtain rfl : u = Value.ref a := ru
  obtain ⟨mA, O, rr, _, _, _⟩ := ins_get I.hok ha
  obtain ⟨od, J, hl⟩ := O.look
  obtain ⟨m0, hF⟩ := I.fr
  refine PySem.W.len_K hF I.ok.mod.kin J hd.at_ hd.fn (thn (run_sub F (Sub.in1 ⟨hr, rfl⟩) hb hx I (.cons (relR a) .nil) q) fun r s' ⟨z, H', I', rz, n, ez, hn, q'⟩ => ?_)
  subst ez
  obtain ⟨t, rfl⟩ := rz
  exact ⟨⟨by omega, by omega⟩, _, _, I'.tok _, relI _ _, q'⟩
end

/-! for x in o, o an instance whose __iter__ says: return iter(self.F), F a tuple -/
def itTup (t : Addr) (i : Nat) : Obj := { cls := .type "tuple_iterator", data := .fields #[.ref t, .int (i : Nat) 0] }
def ItT (t it : Addr) (i : Nat) : HO := .ext fun h => h.get? it = some (itTup t i)
def rIterT (K : PySem.W.Frag) (n : Nat) : List V → Hp → VK → Prop := fun xs H Q => ∃ (t : Addr) (zs : List V), xs = [.ref t] ∧ SqT K H t zs ∧ ∀ it, H it = Option.none → n ≤ it → Q (.ref it) (upd H it (ItT t it 0))
section
variable {X : Cx}
theorem call_iterT : CallR X (.builtin "iter") (rIterT X.K X.s_0.heap.objs.size) := by
  intro pins s σ H xs us Q I r ⟨t, zs, e, hq, q⟩
  subst e
  obtain ⟨u, rfl, ru⟩ := r.one
  obtain rfl : u = Value.ref t := ru
  obtain ⟨its, rv, pl, hz⟩ := I.tuple hq
  refine Calls.call_function_entry (by decide +kernel) (by decide +kernel) PySem.W.kdk_entry_iter (PySem.W.kdk_args_iter _) ?_
  unfold Builtin.«iter»
  refine wpAny_bind (m := someArgs "iter" 1 2 _) (wpAny_of_eq (a := [Value.ref t]) (by first | rfl | kernel_rfl!) ?_)
  show wpAny _ _ (pyIter (.ref t) >>= _) _ _ _
  refine wpAny_bind (wpAny_pyIter_tuple (show s.heap.IsTuple t its.toArray from pl) ?_)
  have g : (s.heap.push (itTup t 0)).get? s.heap.objs.size = some (itTup t 0) := Heap.get?_push_size _ rfl
  have ok : ObjOk X.prog X.w (upd H s.heap.objs.size (ItT t s.heap.objs.size 0)) (s.heap.push (itTup t 0)) s.heap.objs.size (ItT t s.heap.objs.size 0) := ⟨g, ⟨_, g⟩, fun _ _ q k => k _ q⟩
  exact wpAny_pure ⟨_, rfl, .ref s.heap.objs.size, _, I.laid (t' := s.toks) (fun b u e => Heap.get?_push_of_some _ e) (Nat.le_refl _) ok, relR _, q _ (I.hok.fresh (Nat.le_refl _)) I.sz⟩
end

/-- a promise that may speak of how many objects there are when the def is called -/
def FnIt (P : Program) (w : World) (K : PySem.W.Frag) (mg : Str → Option Value) (base : Heap) (k : Nat) (f : Addr) (fd : FuncData) (ps : List Str) (sp : Nat → List V → Hp → VK → Prop) : Prop :=
  ∀ (A : Around) (outer : List Env) (s : Shared) (H : Hp) (us : List Value) (vs : List V) (Q : VK), Room k A → Env0 P w K mg base A outer s H → BindsTo s fd ⟨us, []⟩ (ps.zip us) → vs.length = ps.length → Vals vs us →
    sp s.heap.objs.size vs H Q → codeAny (model P w) A (.call (.ref f) ⟨us, []⟩) (CR CX0 outer P w H s Q E0) s
section
variable {P : Program} {w : World} {K : PySem.W.Frag} {mg : Str → Option Value} {base : Heap}
theorem fnIt_of {x qual : Str} {st : Stmt} {f : Addr} {fd : FuncData} {N ps : List Str} {k : Nat} {sp : Nat → List V → Hp → VK → Prop} (F : Fun K x qual st f fd) (S : FnScope N ps (defScope st))
    (hbody : ∀ (cdv : Value) (A : Around) (outer : List Env) (s : Shared) (H : Hp) (vs : List V) (Q : VK), Room k (A.deeper (envOfC qual (defScope st) s.heap.objs.size f cdv)) → sp s.heap.objs.size vs H Q →
      ∃ t, PSs (cxOf CX0 P w K mg base N qual (defScope st) f cdv A outer s H E0).nox (defBody st) t ∧ t { nx := fun _ H' => Q .non H', rt := Q } (start N vs) H) : FnIt P w K mg base (k + 1) f fd ps sp := by
  obtain ⟨oc, od, kV, doc, pm, an, cdv, ct, osl, rfl, lk, hcd⟩ := F.ex
  intro A outer s H us vs Q hr e0 hb hl r hsp
  have kin : K.In s.heap := e0.mod.kin.keeps fun b o e => (e0.bs b o e).1
  have lim : s.heap.NoLimit := e0.mod.nolimit.keeps fun b o e => (e0.bs b o e).1
  have kinds : ∀ y ∈ ps.zip us, (defScope st).names.lookup y.1 = some .local ∨ ((defScope st).names.lookup y.1 = some .cell ∧ ((cellsFrom (s.heap.objs.size + 1) (defScope st).names []).lookup y.1).isSome = true) := by
    intro y hy
    cases S.par y.1 (List.of_mem_zip (a := y.1) (b := y.2) hy).1 with
    | inl q => exact .inl q
    | inr q => exact .inr ⟨q, PySem.W.cellsFrom_some _ _ _ (.inl q)⟩
  apply codeAny_call_function hr.depth (kin _ _ lk) rfl S.co S.gen rfl (PySem.W.codeRec_of kin hcd) (hb _ _ _ _ ?_)
  apply wpAny_newFunctionEnv_cells S.kind kinds
  intro env he s1 x
  subst he
  refine ⟨lim.keeps x.toInCall.keep, codeAny_func ?_⟩
  obtain ⟨t, ht, hq⟩ := hbody cdv A outer s H vs Q (hr.deeper _) hsp
  have I := inv_start (CX := CX0) (P := P) (w := w) (E := E0) (cd := cdv) (qual := qual) (f := f) (outer := outer) S hr.hd e0 hl r x
  refine wpAny_mono (ht.nox.run [] s1 (start N vs) H _ I hq) (fun fl s' hs => ?_) fun e s' hs => hs
  match fl, hs with
  | .ret u, ⟨v, σ', H', J, rv, q⟩ => exact ⟨v, H', J.os, J.bare, J.base, J.hok, rv, q⟩
  | .next, ⟨σ', H', J, q⟩ => exact ⟨V.non, H', J.os, J.bare, J.base, J.hok, rfl, q⟩
  | .brk, ⟨_, _, _, q⟩ => exact False.elim q
  | .cont, ⟨_, _, _, q⟩ => exact False.elim q
end
/-- what such an __iter__ promises -/
def spIter (K : PySem.W.Frag) (C : Addr) (fld : Str) : Nat → List V → Hp → VK → Prop := fun n vs H Q => ∃ a dx fs t zs, vs = [.ref a] ∧ H a = some (.ins C dx fs) ∧ fs.lookup fld = some (.ref t) ∧ SqT K H t zs ∧
  ∀ it, H it = Option.none → n ≤ it → Q (.ref it) (upd H it (ItT t it 0))
/-- x in o, for a loop: o's own tuple is walked -/
def iOwn (K : PySem.W.Frag) (C : Addr) (fld : Str) (to : TE) : TI := fun σ H R => to σ H fun x H1 => ∃ a dx fs t zs, x = .ref a ∧ H1 a = some (.ins C dx fs) ∧ fs.lookup fld = some (.ref t) ∧ SqT K H1 t zs ∧ R (Itt K t) H1
section
variable {X : Cx} {k : Nat} {f C : Addr} {fd : FuncData} {fld : Str} {tg o : Expr} {to : TE} {pins : List (Addr × Obj)} {σ : L2.St} {H : Hp} {s : Shared} {A1 : Around}
theorem run_iter {a t dx : Addr} {fs : List (Str × V)} {zs : List V} (F : FnIt X.prog X.w X.K X.mg X.base k f fd ["self"] (spIter X.K C fld)) (sb : Sub X k A1) (hb : Binds X.K fd ["self"] []) (I : Inv X pins σ H s)
    (ha : H a = some (.ins C dx fs)) (hf : fs.lookup fld = some (.ref t)) (ht : SqT X.K H t zs) {E : Value → Shared → Prop} :
    wpAny (model X.prog X.w) A1 (call (.ref f) [.ref a]) (fun u s' => ∃ it, u = .ref it ∧ s.heap.objs.size ≤ it ∧ H it = Option.none ∧ Inv X pins σ (upd H it (ItT t it 0)) s') E s := by
  have hb1 : BindsTo s fd ⟨[.ref a], []⟩ ((["self"] : List Str).zip [Value.ref a]) := by
    have z := hb s [.ref a] I.kIn rfl
    exact z
  refine wpAny_call (codeAny_mono (F A1 X.stack s H [.ref a] [.ref a] (fun v H' => ∃ it, v = .ref it ∧ s.heap.objs.size ≤ it ∧ H it = Option.none ∧ H' = upd H it (ItT t it 0)) sb.room (Sub.env0 sb I) hb1 rfl (.cons (relR a) .nil)
    ⟨a, dx, fs, t, zs, rfl, ha, hf, ht, fun it h0 hn => ⟨it, rfl, hn, h0, rfl⟩⟩) fun z s' hq => ?_)
  match z, hq with
  | .error e, hq => exact hq.elim
  | .ok (.ret u), hq =>
    obtain ⟨v, H', I', rv, it, ev, hn, h0, eH⟩ := I.after hq
    subst ev
    rw [eH] at I'
    obtain rfl : u = Value.ref it := rv
    exact ⟨it, rfl, hn, h0, I'⟩
  | .ok .next, hq => exact False.elim hq
  | .ok .brk, hq => exact False.elim hq
  | .ok .cont, hq => exact False.elim hq
theorem pi_own (hd : Dn X.K C "__iter__" f) (F : FnIt X.prog X.w X.K X.mg X.base k f fd ["self"] (spIter X.K C fld)) (hr : Room k X.A) (hb : Binds X.K fd ["self"] []) (ho : PE X o to) : PI X tg o (iOwn X.K C fld to) := by
  refine ⟨fun pins s σ H R I h => ?_⟩
  refine thn (ho.run pins s σ H _ I h) fun u s1 ⟨x, H1, I1, rx, a, dx, fs, t, zs, ex, ha, hf, ht, q⟩ => ?_
  subst ex
  obtain rfl : u = Value.ref a := rx
  obtain ⟨mA, O, rr, _, _, _⟩ := ins_get I1.hok ha
  obtain ⟨od, J, hl⟩ := O.look
  obtain ⟨m0, hF⟩ := I1.fr
  refine PySem.W.owit_iter hF I1.ok.mod.kin J hd.at_ hd.fn (thn (run_iter F ⟨hr, rfl⟩ hb I1 ha hf ht) fun r s2 ⟨it, er, hn, h0, I2⟩ => ?_)
  subst er
  have e2 : upd H1 it (ItT t it 0) it = some (ItT t it 0) := upd_same
  have g : s2.heap.get? it = some (itTup t 0) := (I2.hok it _ e2).1
  have hT : s2.TypeIs (.ref it) "tuple_iterator" := ⟨_, g, rfl⟩
  have hfp := ItX.inv_fp I2 e2 (Nat.le_trans I1.sz hn)
  have I3 := ItX.inv_drop I2 e2
  rw [ItX.dropH_upd h0] at I3 hfp
  unfold PySem.W.OwitIt
  refine wpAny_specialOf (name := Str.ofString "__next__") hT PySem.F.slot_tuple_iterator_next.lookup ?_
  refine ⟨it, [it], _, _, H1, rfl, I3, turn_tuple t it, ⟨_, g, rfl, rfl⟩, fun b hb => ?_, q⟩
  rw [List.mem_singleton.mp hb]
  exact hfp
end
/-! C.m(e, .., k = v, ..), m a classmethod; cls(e, .., k = v, ..), cls a local name that holds the class -/
def tCMethK (C : Addr) (n m : Nat) (sp : Sp) (gV : List V → List V → List V) (E : XK) (ta : TE) (t tk : TA) : TE := fun σ H Q => ta σ H fun x H1 => x = .ref C ∧ t σ H1 fun vs H2 => tk σ H2 fun zs H3 => (.ref C :: vs).length = n ∧ zs.length = m ∧ sp (gV (.ref C :: vs) zs) H3 Q E
def tMakeLK (i : Nat) (C : Addr) (n m : Nat) (sp : Sp) (gV : List V → List V → List V) (E : XK) (t tk : TA) : TE := fun σ H Q => σ[i]? = some (some (.ref C)) ∧ tMakeK C n m sp gV E t tk σ H Q
section
variable {X : Cx} {CX : CXT} {k n i : Nat} {C p g f : Addr} {mc : Value} {sp : Sp} {E : XK} {o e : Expr} {es : List Expr} {kws : List Keyword} {m x : Str} {pos apos xpos : Pos} {ta : TE} {t tk : TA} {pl : Sem Bool} {fd : FuncData} {ps ks : List Str}
  {gv : List Value → List Value → List Value} {gV : List V → List V → List V}
theorem pe_cmethK (he : PE X o ta) (r : ClX.CRead X.K C mc) (c : ClX.CMet X.K C mc m p g) (F : FnOk X.prog X.w X.K X.mg X.base CX k g fd ps sp) (hr : Room k X.A) (hb : KBn X.K fd ps n ks gv gV) (hx : Passes CX X E) (ha : PA X (e :: es) t) (hkw : PK X kws tk)
    (hall : (backToKw pos (keywordEach kws X.env)).all (·.1.isSome) = true := by rfl) (hks : (backToKw pos (keywordEach kws X.env)).filterMap (·.1) = ks := by rfl)
    (hst : starEach (e :: es) X.env = (false, eval e X.env) :: starEach es X.env := by rfl) (hpl : ((backTo pos (starEach (e :: es) X.env)).any (·.1) || (backToKw pos (keywordEach kws X.env)).any (·.1.isNone)) = false := by rfl)
    (ht : eval (.Call (.Attribute o m apos) (e :: es) kws pos) X.env = (do
      let ov ← eval o X.env
      standAt apos.atName
      let (f, first) ← holding [ov] (getMethod ov m pl)
      callWith pos f first (backTo pos (starEach (e :: es) X.env)) (backToKw pos (keywordEach kws X.env))) := by rfl) :
    PE X (.Call (.Attribute o m apos) (e :: es) kws pos) (tCMethK C n ks.length sp gV E ta t tk) := by
  refine ⟨fun pins s σ H Q I h => ?_⟩
  refine PySem.W.methodCall_KW (pl := pl) (thn (he.run pins s σ H _ I h) fun u s1 ⟨x, H1, I1, rx, ex, q⟩ => ?_) ht
  subst ex
  obtain rfl : u = Value.ref C := rx
  refine ClX.getmethcm_ok I1 r c fun s2 I2 => ?_
  refine PySem.W.callWith_of (P := PySem.W.MethP X.K s1.heap.objs.size g (.ref C)) hpl (PySem.W.keeps_M c.fi) (evalArgs_kw2 hall (thn (ha.run pos _ s2 σ H1 _ I2 q) fun us s3 ⟨vs, H2, I3, rv, q2⟩ => ?_) hst)
  refine thn (hkw.run pos _ s3 σ H2 _ I3 q2) fun ws s4 ⟨zs, H3, I4, rz, l1, l2, q3⟩ => ⟨⟨ClX.pin_at I4, I4.kIn⟩, ?_⟩
  rw [hks]
  have r2 : Vals (V.ref C :: vs) (Value.ref C :: us) := .cons (relR C) rv
  have n1 : (Value.ref C :: us).length = n := r2.length.symm.trans l1
  have I5 := ClX.unpin I4
  refine wpAny_call (PySem.W.method_call (ClX.pin_at I4) (codeAny_mono (F.run X.A X.stack s4 H3 ⟨Value.ref C :: us, ks.zip ws⟩ _ _ Q E hr I5.env0 (hb.to _ (Value.ref C :: us) ws I5.kIn n1 (rz.length.symm.trans l2)) (hb.rel r2 rz) q3) fun z s' hq => ?_))
  match z, hq with
  | .error e, hq => exact hx pins σ H3 s4 e s' I5 hq
  | .ok (.ret u), hq => exact I5.after hq
  | .ok .next, hq => exact False.elim hq
  | .ok .brk, hq => exact False.elim hq
  | .ok .cont, hq => exact False.elim hq
theorem pe_makeLK (M : Mk X.K C f) (F : FnOk X.prog X.w X.K X.mg X.base CX k f fd ps sp) (hr : Room (k + 1) X.A) (hb : KBn X.K fd ps (n + 1) ks gv gV) (hx : Passes CX X E) (ha : PA X (e :: es) t) (hkw : PK X kws tk)
    (hN : X.N[i]? = some x) (hv : Vis X.env.scope x) (hd : (x == ("__debug__" : Str)) = false := by decide) (hcd : (x == ("__classdict__" : Str)) = false := by decide)
    (hall : (backToKw pos (keywordEach kws X.env)).all (·.1.isSome) = true := by rfl) (hks : (backToKw pos (keywordEach kws X.env)).filterMap (·.1) = ks := by rfl)
    (hst : starEach (e :: es) X.env = (false, eval e X.env) :: starEach es X.env := by rfl) (hpl : ((backTo pos (starEach (e :: es) X.env)).any (·.1) || (backToKw pos (keywordEach kws X.env)).any (·.1.isNone)) = false := by rfl) :
    PE X (.Call (.Name x xpos) (e :: es) kws pos) (tMakeLK i C n ks.length sp gV E t tk) := by
  refine ⟨fun pins s σ H Q I ⟨h0, h⟩ => ?_⟩
  refine wpAny_Call_Name_kw (thn ((pe_var (pos := xpos) (i := i) hN hv hd hcd).run pins s σ H (fun v H1 => v = .ref C ∧ H1 = H) I ⟨.ref C, h0, rfl, rfl⟩) fun u s1 ⟨v, H1, I1, r1, ev, eH⟩ => ?_)
  subst ev
  rw [eH] at I1
  obtain rfl : u = Value.ref C := r1
  refine PySem.W.callWith_KW (h₀ := X.base) I1.ok.mod.kin M.kp hall (thn (ha.run pos pins s1 σ H _ I1 h) fun us s2 ⟨vs, H2, I2, r, q⟩ => ?_) hpl hst
  refine thn (hkw.run pos pins s2 σ H2 _ I2 q) fun ws s3 ⟨zs, H3, I3, rz, l1, l2, q2⟩ => ⟨I3.kIn, ?_⟩
  rw [hks]
  exact run_makeK M F hr hb hx I3 r rz l1 l2 q2
end

/-! heaps that only grow -/
theorem Same.up {H : Hp} {p : Addr} {o : HO} (h : H p = Option.none) : Same H (upd H p o) := fun b u e => by
  rw [upd_ne (ne_of_none e h)]
  exact e
/-- a list under way at D, which was not there in H1 -/
structure Acc (H1 : Hp) (D : Addr) (acc : List V) (H : Hp) : Prop where
  s : Same H1 H
  n : H1 D = Option.none
  a : H D = some (.lst acc)
theorem Acc.start {H1 : Hp} {D : Addr} (n : H1 D = Option.none) : Acc H1 D [] (upd H1 D (.lst [])) := ⟨Same.up n, n, upd_same⟩
theorem Acc.same {H1 H H' : Hp} {D : Addr} {acc : List V} (h : Acc H1 D acc H) (s : Same H H') : Acc H1 D acc H' := ⟨h.s.trans s, h.n, s _ _ h.a⟩
theorem Acc.push {H1 H : Hp} {D : Addr} {acc zs : List V} (h : Acc H1 D acc H) : Acc H1 D zs (upd H D (.lst zs)) :=
  ⟨fun b o e => by rw [upd_ne (ne_of_none e h.n)]; exact h.s b o e, h.n, upd_same⟩
theorem Same.none' {H H' : Hp} (s : Same H H') {p : Addr} (h : H' p = Option.none) : H p = Option.none := s.free h
theorem Same.of_upd {H H' : Hp} {p : Addr} {o : HO} (h : H p = Option.none) (s : Same (upd H p o) H') : Same H H' := (Same.up h).trans s
/-- a list of ints as values -/
theorem ints_at {ns : List Int} {i : Nat} {x : V} (h : (ns.map V.int)[i]? = some x) : ∃ (hi : i < ns.length), x = .int ns[i] := by
  rw [List.getElem?_map] at h
  cases e : ns[i]? with
  | none => rw [e] at h; cases h
  | some u =>
    rw [e] at h
    obtain ⟨hi, rfl⟩ := List.getElem?_eq_some_iff.mp e
    exact ⟨hi, (Option.some.inj h).symm⟩

/-! comprehensions that pick -/
section
variable {α : Type} {H1 H : Hp} {D : Addr} {ks : List α} {f : α → Option V} {i : Nat} {c : α → V}
def PickI (H1 : Hp) (D : Addr) (ks : List α) (f : α → Option V) : Nat → Hp → Prop := fun i H => Acc H1 D ((ks.take i).filterMap f) H
theorem pick_start (n : H1 D = Option.none) : PickI H1 D ks f 0 (upd H1 D (.lst [])) := Acc.start n
theorem take_fm (hi : i < ks.length) : (ks.take (i + 1)).filterMap f = (ks.take i).filterMap f ++ (f ks[i]).toList := by
  rw [List.take_succ_eq_append_getElem hi, List.filterMap_append]
  cases h : f ks[i] <;> simp [h]
theorem pick_yes {H' : Hp} {y : V} (hi : i < ks.length) (hl : ks.length ≤ 1000) (e : f ks[i] = some y) (s : Same H H') (h : PickI H1 D ks f i H) :
    ∃ acc, H' D = some (.lst acc) ∧ acc.length < sizeLine ∧ PickI H1 D ks f (i + 1) (upd H' D (.lst (acc ++ [y]))) := by
  have h2 := Acc.same h s
  refine ⟨_, h2.a, small1000 ?_, ?_⟩
  · exact Nat.le_trans (Nat.le_trans (List.length_filterMap_le _ _) (List.length_take_le _ _)) (by omega)
  · unfold PickI
    rw [take_fm hi, e]
    exact h2.push
theorem pick_no {H' : Hp} (hi : i < ks.length) (e : f ks[i] = none) (s : Same H H') (h : PickI H1 D ks f i H) : PickI H1 D ks f (i + 1) H' := by
  unfold PickI
  rw [take_fm hi, e, Option.toList_none, List.append_nil]
  exact Acc.same h s
theorem pick_end {m : Nat} (hm : m = ks.length) (h : PickI H1 D ks f m H) : Acc H1 D (ks.filterMap f) H := by
  subst hm
  unfold PickI at h
  rw [List.take_length] at h
  exact h
theorem map_at {x : V} (h : (ks.map c)[i]? = some x) : ∃ hi : i < ks.length, x = c ks[i] := by
  rw [List.getElem?_map] at h
  cases e : ks[i]? with
  | none => rw [e] at h; cases h
  | some u =>
    rw [e] at h
    obtain ⟨hi, rfl⟩ := List.getElem?_eq_some_iff.mp e
    exact ⟨hi, (Option.some.inj h).symm⟩
end
end Tw

set_option Elab.async false
set_option linter.all false
set_option maxRecDepth 100000
set_option maxHeartbeats 2000000
namespace Tw
open PySem PySem.Spec PyProof.Rows L2
open PySem.W (InstAt looks_findIn looks_subIn ifBound_K cmp_K)
/-- a class with an own __eq__ and the usual != -/
structure EqC (K : PySem.W.Frag) (C f : Addr) : Prop where
  eq : PySem.W.findIn K (.ref C) "__eq__" = some (some (.ref f))
  fn : PySem.W.isFn K (.ref f) = true
  ne : PySem.W.findIn K (.ref C) "__ne__" = some (some (.builtin "object.__ne__"))
  ob : PySem.W.subIn K (.ref C) (.type "object") = some true
  ni : PySem.W.subIn K (.type "int") (.ref C) = some false
  nt : PySem.W.subIn K (.type "tuple") (.ref C) = some false

section
variable {prog : Program} {w : World} {A : Around} {E : Value → Shared → Prop} {s : Shared} {K : PySem.W.Frag} {x C L f : Addr} {h₀ : Heap} {m : Str → Option Value} {ox : Obj} {od : Option Obj} {b tb : Value}
theorem ne_entry {Q : PySem.Fin → Shared → Prop} (hu : A.units < cLine) (X : K.In s.heap) (I : InstAt s.heap x ox C od) (c : EqC K C f)
    (h : wpAny (model prog w) A (call (.ref f) [.ref x, b]) (fun v s' => ∃ r, v = .bool r ∧ Q (.done (.ret (.bool (!r)))) s') E s) :
    wpAny (model prog w) A (Builtin.«object.__ne__» ⟨[.ref x, b], []⟩) Q E s := by
  unfold Builtin.«object.__ne__»
  refine wpAny_bind (wpAny_of_eq (a := (Value.ref x, [b])) (by first | rfl | kernel_rfl!) ?_)
  refine wpAny_bind (wpAny_cRoomFor hu ?_)
  refine wpAny_bind (m := callSpecialIfBound? (.ref x) (Str.ofString "__eq__") [b]) (ifBound_K X I c.eq c.fn (wpAny_mono h (fun v s' hv => ?_) fun _ _ e => e))
  obtain ⟨r, e, q⟩ := hv
  subst e
  refine wpAny_bind (m := truthy (.bool r)) (wpAny_truthy_bool ?_)
  exact wpAny_pure q
theorem ne_call {Q : Value → Shared → Prop} (hu : A.in1.units < cLine) (X : K.In s.heap) (I : InstAt s.heap x ox C od) (c : EqC K C f)
    (h : wpAny (model prog w) A.in1 (call (.ref f) [.ref x, b]) (fun v s' => ∃ r, v = .bool r ∧ Q (.bool (!r)) s') E s) :
    wpAny (model prog w) A (call (.builtin "object.__ne__") [.ref x, b]) Q E s := by
  have t2 : PySem.W.Looks (model prog w) s.heap (isInstance (.ref x) (.type "object")) true := I.type.andThen (looks_subIn X c.ob)
  refine wpAny_call (codeAny_call_builtin F.cmp_object.ne.plain F.cmpEntry_ne (PySem.W.check_slot F.cmpKind_ne F.cmpSplit_ne t2 (F.cmpArgs_ne _ _) (ne_entry hu X I c (wpAny_mono h (fun v s' hv => ?_) fun _ _ e => e))))
  obtain ⟨r, e, q⟩ := hv
  exact ⟨r, e, q⟩
theorem ne_bound {Q : Option Value → Shared → Prop} (hu : A.in1.units < cLine) (X : K.In s.heap) (I : InstAt s.heap x ox C od) (c : EqC K C f)
    (h : wpAny (model prog w) A.in1 (call (.ref f) [.ref x, b]) (fun v s' => ∃ r, v = .bool r ∧ Q (some (.bool (!r))) s') E s) :
    wpAny (model prog w) A (callSpecialIfBound? (.ref x) "__ne__" [b]) Q E s := by
  simp only [callSpecialIfBound?, bindSpecialIfBound?]
  refine wpAny_holding (wpAny_bind (wpAny_bind (wpAny_bind (I.type.here ((looks_findIn X c.ne).here ?_)))))
  refine wpAny_bind (wpAny_askSetting (wpAny_ite ?_))
  have fin : wpAny (model prog w) A (call (.builtin "object.__ne__") ([.ref x] ++ [b]) >>= fun v => pure (some v)) Q E s :=
    wpAny_bind (ne_call hu X I c (wpAny_mono h (fun v s' ⟨r, e, q⟩ => ⟨r, e, wpAny_pure q⟩) fun _ _ e => e))
  have bd := F.cmp_object.ne.bind (.ref x)
  split
  · refine wpAny_bind ?_
    rw [bd]
    exact wpAny_pure (wpAny_pure (by exact fin))
  · refine wpAny_tryCatch (wpAny_bind ?_)
    rw [bd]
    exact wpAny_pure (wpAny_pure (by exact fin))
theorem ne_K {Q : Value → Shared → Prop} (hu : A.in1.units < cLine) (hu0 : A.units < cLine) (F : Fr h₀ L s.heap m) (X₀ : K.In h₀) (I : InstAt s.heap x ox C od) (hb : PySem.W.Looks (model prog w) s.heap (typeOf b) tb) (hn : PySem.W.notFirst K C tb = true) (c : EqC K C f)
    (h : wpAny (model prog w) A.in1 (call (.ref f) [.ref x, b]) (fun v s' => ∃ r, v = .bool r ∧ Q (.bool (!r)) s') E s) : wpAny (model prog w) A (richCompare .NotEq (.ref x) b) Q E s := by
  have X := X₀.keeps F.keep
  have one : wpAny (model prog w) A (tryCompare (.ref x) (cmpInfo .NotEq).2.1 b) (fun r s' => ∃ v, r = some v ∧ Q v s') E s := by
    unfold tryCompare
    refine wpAny_bind (ne_bound hu X I c (wpAny_mono h (fun v s' ⟨r, e, q⟩ => ⟨r, e, ?_⟩) fun _ _ e => e))
    exact wpAny_pure ⟨_, rfl, q⟩
  have two : ∀ r s', (∃ v, r = some v ∧ Q v s') → ∃ v, r = some v ∧ Q v s' := fun _ _ z => z
  unfold richCompare
  simp only [oneThing_ref]
  refine wpAny_holding (wpAny_bind (wpAny_cRoomFor hu0 ?_))
  refine wpAny_bind (I.type.here (wpAny_bind (hb.here ?_)))
  split
  · rename_i q
    have e : PySem.W.subIn K tb (.ref C) = some false := by
      rcases Bool.or_eq_true_iff.mp hn with e | e
      · rw [beq_iff_eq.mp e] at q; simp at q
      · exact beq_iff_eq.mp e
    refine wpAny_bind ((looks_subIn X e).here ?_)
    simp only [Bool.false_eq_true, if_false]
    refine wpAny_bind (wpAny_mono one (fun r s' ⟨v, ev, hq⟩ => ?_) fun _ _ e => e)
    subst ev
    exact wpAny_pure hq
  · refine wpAny_bind (wpAny_pure ?_)
    simp only [Bool.false_eq_true, if_false]
    refine wpAny_bind (wpAny_mono one (fun r s' ⟨v, ev, hq⟩ => ?_) fun _ _ e => e)
    subst ev
    exact wpAny_pure hq
end
/-! as rules -/
section
variable {X : Cx} {CX : CXT} {k : Nat} {f C : Addr} {fd : FuncData} {ps : List Str} {sp : Sp} {E : XK}
/-- the other operand: an instance of the same class, an int, a tuple -/
inductive Oth (H : Hp) (C : Addr) : V → Prop where
  | ins {a dx : Addr} {fs : List (Str × V)} (h : H a = some (.ins C dx fs)) : Oth H C (.ref a)
  | int (i : Int) : Oth H C (.int i)
  | tup {a : Addr} {xs : List V} (h : H a = some (.tup xs)) : Oth H C (.ref a)
def rEqO (C : Addr) (sp : Sp) (E : XK) (neg : Bool) : R2 := fun x y H Q =>
  ∃ a dx fs, x = .ref a ∧ H a = some (.ins C dx fs) ∧ Oth H C y ∧ sp [.ref a, y] H (fun v H' => ∃ r, v = .bl r ∧ Q (.bl (if neg then !r else r)) H') E
theorem oth_type {pins : List (Addr × Obj)} {σ : L2.St} {H : Hp} {s : Shared} {y : V} {u : Value} (I : Inv X pins σ H s) (ry : RelV y u) (c : EqC X.K C f) (o : Oth H C y) :
    ∃ tb, PySem.W.Looks (model X.prog X.w) s.heap (typeOf u) tb ∧ PySem.W.notFirst X.K C tb = true := by
  cases o with
  | @ins a dx fs h =>
    obtain rfl : u = Value.ref a := ry
    obtain ⟨mA, O, rr, _, _, _⟩ := ins_get I.hok h
    obtain ⟨od, J, hl⟩ := O.look
    exact ⟨_, J.type, by unfold PySem.W.notFirst; simp⟩
  | int i =>
    obtain ⟨t, rfl⟩ := ry
    exact ⟨.type "int", .now, by unfold PySem.W.notFirst; rw [c.ni]; simp⟩
  | @tup a xs h =>
    obtain rfl : u = Value.ref a := ry
    obtain ⟨_, _, _, ob, h1, h2, _⟩ := (show ObjOk X.prog X.w H s.heap a (.tup xs) from I.hok a _ h)
    exact ⟨.type "tuple", h2 ▸ (PySem.W.Looks.ld h1).andThen .now, by unfold PySem.W.notFirst; rw [c.nt]; simp⟩
theorem op_eq_own (c : EqC X.K C f) (F : FnOk X.prog X.w X.K X.mg X.base CX k f fd ps sp) (hr : Room k X.A) (hb : Binds X.K fd ps []) (hx : Passes CX X E) : OpR X (compareOp .Eq) (rEqO C sp E false) := by
  intro pins s σ H x y v u Q I rx ry ⟨a, dx, fs, ex, ha, o, q⟩
  subst ex
  obtain rfl : v = Value.ref a := rx
  obtain ⟨mA, O, rr, _, _, _⟩ := ins_get I.hok ha
  obtain ⟨od, J, hl⟩ := O.look
  obtain ⟨m0, hF⟩ := I.fr
  obtain ⟨tb, lk, nf⟩ := oth_type I ry c o
  show wpAny _ _ (richCompare .Eq (.ref a) u) _ _ _
  refine cmp_K hr.units0 hF I.ok.mod.kin J lk nf c.eq c.fn (thn (run_sub F ⟨hr, rfl⟩ hb hx I (.cons (relR a) (.cons ry .nil)) q) fun r s' ⟨z, H', I', rz, b, ez, q'⟩ => ?_)
  subst ez
  obtain rfl : r = Value.bool b := rz
  exact ⟨_, H', I', relB b, q'⟩
theorem op_ne_own (c : EqC X.K C f) (F : FnOk X.prog X.w X.K X.mg X.base CX k f fd ps sp) (hr : Room (k + 1) X.A) (hb : Binds X.K fd ps []) (hx : Passes CX X E) : OpR X (compareOp .NotEq) (rEqO C sp E true) := by
  intro pins s σ H x y v u Q I rx ry ⟨a, dx, fs, ex, ha, o, q⟩
  subst ex
  obtain rfl : v = Value.ref a := rx
  obtain ⟨mA, O, rr, _, _, _⟩ := ins_get I.hok ha
  obtain ⟨od, J, hl⟩ := O.look
  obtain ⟨m0, hF⟩ := I.fr
  obtain ⟨tb, lk, nf⟩ := oth_type I ry c o
  show wpAny _ _ (richCompare .NotEq (.ref a) u) _ _ _
  refine ne_K (Room.units0 hr.in1) hr.units0 hF I.ok.mod.kin J lk nf c (thn (run_sub F (Sub.in1 ⟨hr, rfl⟩) hb hx I (.cons (relR a) (.cons ry .nil)) q) fun r s' ⟨z, H', I', rz, b, ez, q'⟩ => ?_)
  subst ez
  exact ⟨b, rz, _, H', I', relB (!b), q'⟩
end
end Tw

set_option Elab.async false
set_option linter.all false
set_option maxRecDepth 100000
set_option maxHeartbeats 4000000
namespace Tw
open PySem PySem.Spec PyProof.Rows L2
/-! enumerate(t), t a tuple -/
def enO (s : Shared) : Obj := { cls := .type "enumerate", data := .fields #[.none, .bool false, .ref s.heap.objs.size, rawInt 0, .none, .none] }
theorem enum_newT (t : Addr) (items : Array Value) :
    Meets (Builtin.«enumerate.__new__» ⟨[.type "enumerate", .ref t], []⟩) (fun _ R s => s.heap.IsTuple t items ∧
      R (.ok (.ret (.ref (s.heap.push (itTup t 0)).objs.size))) { s with heap := (s.heap.push (itTup t 0)).push (enO s) }) :=
  .of_wp fun prog w A R s h => by
    obtain ⟨hp, g, d, tk, os⟩ := s
    obtain ⟨h1, h⟩ := h
    have hsub := sub_enumerate
    have q1 : ∀ {A' : Around} {E : Value → Shared → Prop} {Q : Value → Shared → Prop}, Q (.ref hp.objs.size) ⟨hp.push (itTup t 0), g, d, tk, os⟩ → wpAny (model prog w) A' (pyIter (.ref t)) Q E ⟨hp, g, d, tk, os⟩ :=
      fun q => wpAny_pyIter_tuple (s := ⟨hp, g, d, tk, os⟩) h1 q
    wp_walk using q1
    refine wpAny_stack_any fun st => wpAny_pure ?_
    split
    · rename_i c _ _ _ _ _
      cases (c == Value.type "enumerate")
      · wp_walk using q1
        exact ⟨_, rfl, h⟩
      · wp_walk using q1
        exact ⟨_, rfl, h⟩
    · wp_walk using q1
      exact ⟨_, rfl, h⟩
section
variable {prog : Program} {w : World} {A : Around} {E : Value → Shared → Prop} {s : Shared}
theorem call_enumT {t : Addr} {items : Array Value} {Q : Value → Shared → Prop} (hT : s.heap.IsTuple t items)
    (h : ∀ h', IsEnum h' (s.heap.objs.size + 1) s.heap.objs.size 0 .none → h'.IsTupleIter s.heap.objs.size t 0 → h'.objs.size = s.heap.objs.size + 2 →
      (∀ b o, s.heap.get? b = some o → h'.get? b = some o) → Q (.ref (s.heap.objs.size + 1)) { s with heap := h' }) :
    wpAny (model prog w) A (call (.type "enumerate") [.ref t]) Q E s := by
  refine callType_new F.called_enumerate (by decide) (F.typeCall_enumerate_1 _) (F.newCall_enumerate_1 _) (fun obj => F.args_object_init_2 obj _) F.entry_enumerate_new (enum_newT t items) ⟨hT, ?_⟩
  have hz : (s.heap.push (itTup t 0)).objs.size = s.heap.objs.size + 1 := Heap.size_push ..
  show _ ∧ _
  rw [hz]
  have he : IsEnum ((s.heap.push (itTup t 0)).push (enO s)) (s.heap.objs.size + 1) s.heap.objs.size 0 .none := by
    have q := Heap.get?_push_size (s.heap.push (itTup t 0)) (o := enO s) rfl
    rw [hz] at q
    exact q
  have hi : ((s.heap.push (itTup t 0)).push (enO s)).IsTupleIter s.heap.objs.size t 0 := ⟨_, Heap.get?_push_of_some _ (Heap.get?_push_size _ rfl), rfl, rfl⟩
  exact ⟨⟨_, he, rfl⟩, h _ he hi (by rw [Heap.size_push, hz]) fun b o x => Heap.get?_push_of_some _ (Heap.get?_push_of_some _ x)⟩
end
def IteT (K : PySem.W.Frag) (a : Addr) : It :=
  ⟨fun i H => ∃ (xs : List V) (x : V), SqT K H a xs ∧ xs[i]? = some x, fun i H v H' => ∃ T x, v = .ref T ∧ H T = Option.none ∧ H' = upd H T (.tup [.int (i : Nat), x]) ∧ ∀ xs, SqT K H a xs → xs[i]? = some x, fun i H => ∃ xs : List V, SqT K H a xs ∧ xs.length = i⟩
theorem turn_enumT {P : Program} {w : World} {K : PySem.W.Frag} {elts : List Expr} {kk : Nat} {tpos : Pos} (a e it : Addr) :
    Turn P w K (.Tuple elts kk tpos) (IteT K a) [e, it] e (fun i h => (∃ old, IsEnum h e it ((i : Nat) : Int) old) ∧ h.IsTupleIter it a i ∧ e ≠ it) where
  mem := by simp
  obj := fun i h st b hb => by
    obtain ⟨⟨old, he⟩, ⟨o, ho, hc, hd⟩, _⟩ := st
    rcases (show b = e ∨ b = it by simpa using hb) with rfl | rfl
    · exact ⟨_, he, fun v q => nomatch q⟩
    · exact ⟨o, ho, fun v q => by rw [hd] at q; cases q⟩
  keep := fun i h h' st k => let ⟨⟨old, he⟩, hi, hne⟩ := st; ⟨⟨old, k e (by simp) _ he⟩, hi.at fun o q => k it (by simp) o q, hne⟩
  item := by
    intro X hP hw hK hc i pins s σ H E I hf st hg
    subst hP hw hK
    obtain ⟨⟨old, he⟩, hit, hne⟩ := st
    obtain ⟨xs, x, hq, hx⟩ := hg
    obtain ⟨its, rv, p, hz⟩ := I.tuple hq
    have hil : i < xs.length := (List.getElem?_eq_some_iff.mp hx).1
    have hlen := rv.length
    have hel : e < s.heap.objs.size := Heap.lt_size he
    have hitl : it < s.heap.objs.size := by obtain ⟨_, q, _⟩ := hit; exact Heap.lt_size q
    have hae : e ≠ a := fun z => by
      obtain ⟨oo, h1, h2, _⟩ := p
      rw [← z, he] at h1
      cases h1
      injection h2 with q
      exact absurd q (by decide)
    have hia : it ≠ a := fun z => by
      obtain ⟨oo, h1, h2, _⟩ := p
      obtain ⟨o2, h3, h4, _⟩ := hit
      rw [← z, h3] at h1
      cases h1
      rw [h4] at h2
      injection h2 with q
      exact absurd q (by decide)
    have D := Draws.tuple (prog := X.prog) (w := X.w) (A := X.A.in1) (I.ok.hd hc) it a hia.symm its.toArray
    refine wpAny_pyNext_enum_itemD D he ⟨hit, p⟩ (by rw [List.size_toArray]; omega) hne (by simp [hne, hae]) fun u h' tk hu ho hst hT hsz hk => ?_
    obtain ⟨u2, hu2, ru⟩ := rv.get hx
    obtain rfl : u = u2 := by
      rw [List.getElem?_toArray] at hu
      exact Option.some.inj (hu.symm.trans hu2)
    refine ⟨_, rfl, wpAny_letOwnedTupleGo_enum (s := { s with heap := h', toks := tk + 1 }) ho fun h'' he' sb => ?_⟩
    have hT2 : h''.get? s.heap.objs.size = some { cls := .type "tuple", data := .seq #[.int i tk, u] } := (sb.2 _ (Nat.ne_of_gt hel)).trans hT
    have new : ObjOk X.prog X.w (upd H s.heap.objs.size (.tup [.int (i : Nat), x])) h'' s.heap.objs.size (.tup [.int (i : Nat), x]) :=
      ⟨by show 2 ≤ sizeLine; decide, [.int i tk, u], .cons ⟨_, rfl⟩ (.cons ru .nil), ⟨_, hT2, rfl, _, rfl⟩⟩
    have I1 : Inv X pins σ (upd H s.heap.objs.size (.tup [.int (i : Nat), x])) { s with heap := h'', toks := tk + 1 } :=
      I.turnedNew (ch := [e, it]) (fun b ob hb q => (sb.2 b (fun z => hb (by simp [z]))).trans (hk b ob (fun z => hb (by simp [z])) (fun z => hb (by simp [z])) q)) hf (Nat.le_refl _) new
    refine ⟨.ref s.heap.objs.size, _, I1, rfl, ⟨_, x, rfl, I.hok.fresh (Nat.le_refl _), rfl, fun ys hy => by rw [I.tuple_inj hy hq]; exact hx⟩, ⟨⟨u, ?_⟩, hst.1.at fun o q => (sb.2 it (Ne.symm hne)).trans q, hne⟩, fun b hb => ?_⟩
    · rw [show ((i + 1 : Nat) : Int) = (i : Int) + 1 by omega]
      exact he'
    · have hb' : b < s.heap.objs.size := by
        rcases (show b = e ∨ b = it by simpa using hb) with rfl | rfl
        · exact hel
        · exact hitl
      rw [upd_ne (Nat.ne_of_lt hb')]
      exact (hf b hb).1
  done := by
    intro X hP hw hK hc i pins s σ H E I hf st hg
    subst hP hw hK
    obtain ⟨⟨old, he⟩, hit, hne⟩ := st
    obtain ⟨xs, hq, hx⟩ := hg
    obtain ⟨its, rv, p, hz⟩ := I.tuple hq
    obtain ⟨f0, f1, f2, f3, f4, f5⟩ := hf it (by simp)
    have hlen := rv.length
    have hae : e ≠ a := fun z => by
      obtain ⟨oo, h1, h2, _⟩ := p
      rw [← z, he] at h1
      cases h1
      injection h2 with q
      exact absurd q (by decide)
    have hia : it ≠ a := fun z => by
      obtain ⟨oo, h1, h2, _⟩ := p
      obtain ⟨o2, h3, h4, _⟩ := hit
      rw [← z, h3] at h1
      cases h1
      rw [h4] at h2
      injection h2 with q
      exact absurd q (by decide)
    have D := Draws.tuple (prog := X.prog) (w := X.w) (A := X.A.in1) (I.ok.hd hc) it a hia.symm its.toArray
    have en : its.toArray.size = i := by rw [List.size_toArray]; omega
    refine wpAny_pyNext_enum_endD D he (by rw [en]; exact ⟨hit, p⟩) fun h' eb => ⟨rfl, I.turned (t' := s.toks) (fun b o hb q => eb b o hb q) f0 f1 f3 f4 f5⟩
  self := fun A i s Q E st h => let ⟨⟨_, he⟩, _⟩ := st; wpAny_pyIter_enum he h
theorem walk_enumT {K : PySem.W.Frag} {a : Addr} {xs : List V} : Walk (IteT K a) xs.length (fun H => SqT K H a xs) (YPair (fun i => some (.int (i : Nat))) (fun i => xs[i]?)) := by
  refine ⟨fun i _ hi q => ⟨xs, xs[i], q, by simp [hi]⟩, fun _ q => ⟨xs, q, rfl⟩, fun i H v H' _ q y => ?_⟩
  obtain ⟨T, x, h1, h2, h3, h4⟩ := y
  exact ⟨T, .int (i : Nat), x, h1, h2, h3, rfl, h4 xs q⟩
/-- enumerate of a list or of a tuple -/
def iEnS (K : PySem.W.Frag) (ta : TA) : TI := fun σ H R => ta σ H fun vs H1 => ∃ a xs, vs = [.ref a] ∧ ((SqL K H1 a xs ∧ R (Ite K a) H1) ∨ (SqT K H1 a xs ∧ R (IteT K a) H1))
theorem pi_enS {X : Cx} {e : Expr} {ta : TA} {p pos tpos : Pos} {elts : List Expr} {kk : Nat} (hg : Gl X "enumerate") (hm : X.mg "enumerate" = Option.none) (ha : PA X [e] ta) (hs : starEach [e] X.env = [(false, eval e X.env)] := by rfl) :
    PI X (.Tuple elts kk tpos) (.Call (.Name "enumerate" p) [e] [] pos) (iEnS X.K ta) := by
  refine ⟨fun pins s σ H R I h => ?_⟩
  refine Call_ (ld_blt I hg hm boot_enumerate (PyProof.Rows.callWith_type1 (thn (ha.run pos pins s σ H _ I h) fun us s1 ⟨vs, H1, I1, r1, a, xs, ex, q1⟩ => ?_) hs rfl))
  subst ex
  obtain ⟨u, rfl, ru⟩ := r1.one
  obtain rfl : u = Value.ref a := ru
  have fr : ∀ b ∈ [s1.heap.objs.size + 1, s1.heap.objs.size], FpOk X pins H1 b := fun b hb => by
    have hle : s1.heap.objs.size ≤ b := by
      rcases (show b = s1.heap.objs.size + 1 ∨ b = s1.heap.objs.size by simpa using hb) with z | z <;> omega
    exact I1.fpOk hle (I1.hok.fresh hle)
  rcases q1 with ⟨hq, q⟩ | ⟨hq, q⟩
  · obtain ⟨its, rv, p', hz⟩ := I1.list hq
    exact call_enumerate_list p'.isList fun h' he hit hsz hk => wpAny_pyIter_enum he ⟨_, _, _, _, H1, rfl, I1.kept (t' := s1.toks) hk, turn_enum a (s1.heap.objs.size + 1) s1.heap.objs.size, ⟨⟨.none, he⟩, hit, Nat.succ_ne_self _⟩, fr, q⟩
  · obtain ⟨its, rv, p', hz⟩ := I1.tuple hq
    exact call_enumT p' fun h' he hit hsz hk => wpAny_pyIter_enum he ⟨_, _, _, _, H1, rfl, I1.kept (t' := s1.toks) hk, turn_enumT a (s1.heap.objs.size + 1) s1.heap.objs.size, ⟨⟨.none, he⟩, hit, Nat.succ_ne_self _⟩, fr, q⟩
end Tw

set_option Elab.async false
set_option linter.all false
set_option maxRecDepth 100000
set_option maxHeartbeats 2000000
/-! own rules: min(xs, key=lambda x: ys[x]), ys a name of the def -/
namespace Cl
open PySem PySem.Spec PyProof.Rows L2 LamX
section
variable {prog : Program} {w : World} {A : Around} {E : Value → Shared → Prop} {s : Shared}
/-- what the lambda's scope must say -/
structure LSc (scope : Scope) (x y : Str) : Prop where
  kind : scope.kind = .function
  co : scope.isCoroutine = false
  gen : scope.isGenerator = false
  nocell : ∀ z ∈ scope.names, z.2 ≠ .cell
  px : scope.names.lookup x = some .local
  fy : scope.names.lookup y = some .free
/-- lambda x: y[x], called with an int -/
theorem lam_ix {f l c' ck : Addr} {q x y : Str} {params : Arguments} {p1 p2 p3 : Pos} {scope : Scope} {cl : List (Str × Addr)} {pm ctv u : Value} {vs : List Value} {i : Int} {t : Tok} {Q : Value → Shared → Prop}
    (S : LSc scope x y) (hd : A.depth < recursionLimit) (hf : s.heap.get? f = some (PySem.W.kla_obj "<lambda>" q params (.Subscript (.Name y p1) (.Name x p2) p3) scope cl pm c' ctv))
    (hbind : ∀ v : Value, bindArgs (PySem.W.kla_fn "<lambda>" q params (.Subscript (.Name y p1) (.Name x p2) p3) scope cl pm (.ref c') ctv) ⟨[v], []⟩ = pure [(x, v)])
    (hcode : ∃ (oc : Obj) (us : Array Value) (tk : Tok), s.heap.get? c' = some oc ∧ oc.data = .fields us ∧ us[1]? = some (.str q tk)) (hlim : s.heap.NoLimit)
    (hck : cl.lookup y = some ck) (hcell : s.heap.IsCell ck (some (.ref l))) (hl : s.heap.IsList l vs.toArray) (h0 : 0 ≤ i) (h1 : i < 2 ^ 63) (hi : vs[i.toNat]? = some u)
    (hdx : (x == ("__debug__" : Str)) = false) (hdy : (y == ("__debug__" : Str)) = false) (hcy : (y == ("__classdict__" : Str)) = false)
    (h : ∀ h' tk, s.toks ≤ tk → (∀ b o, s.heap.get? b = some o → h'.get? b = some o) → Q u { s with heap := h', toks := tk }) : wpAny (model prog w) A (call (.ref f) [.int i t]) Q E s := by
  obtain ⟨oc, us, tq, hoc, hdc, hvc⟩ := hcode
  refine wpAny_call (PySem.W.kla_callFunE hd hf rfl S.co S.gen rfl ⟨c', oc, us, tq, rfl, hoc, hdc, hvc⟩ ?_)
  rw [hbind]
  refine wpAny_pure (wpAny_newFunctionEnv S.nocell (fun z hz => by rw [List.mem_singleton.mp hz]; exact S.px) (fun h₁ hns hsb => ⟨hlim.fresh _ hsb, ?_⟩) S.kind)
  have kp : ∀ b o, s.heap.get? b = some o → h₁.get? b = some o := fun b o e => hsb.extBut b o (Nat.ne_of_lt (Heap.lt_size e)) (Heap.get?_push_of_some _ e)
  refine PySem.W.kla_codeExpr ?_
  refine wpAny_Subscript_Name list_getitem_lookup ?_
  refine wpAny_Name (wpAny_loadName_free S.kind S.fy hck (hcell.keeps kp) ?_ hcy) hdy
  refine wpAny_Name (wpAny_loadName_local S.kind S.px hns (v := .int i t) ?_ ?_) hdx
  · simp [List.lookup]
  · have hl' : h₁.IsList l vs.toArray := hl.at fun o e => kp _ _ e
    refine ⟨hl'.typeIs, wpAny_getItem_list hl' h0 h1 (by simpa using hi) ?_⟩
    exact h h₁ _ (by show s.toks ≤ s.toks + _; omega) kp
/-- what a lambda x: y[x] is, and what it reads -/
structure LamAt (h : Heap) (f : Addr) (x y : Str) (q : Str) (params : Arguments) (p1 p2 p3 : Pos) (scope : Scope) (cl : List (Str × Addr)) (pm ctv : Value) (c' ck l : Addr) (us : List Value) : Prop where
  fn : h.get? f = some (PySem.W.kla_obj "<lambda>" q params (.Subscript (.Name y p1) (.Name x p2) p3) scope cl pm c' ctv)
  code : ∃ (oc : Obj) (us : Array Value) (tk : Tok), h.get? c' = some oc ∧ oc.data = .fields us ∧ us[1]? = some (.str q tk)
  lim : h.NoLimit
  hck : cl.lookup y = some ck
  cell : h.IsCell ck (some (.ref l))
  lst : h.IsList l us.toArray
theorem LamAt.keeps {h h' : Heap} {f : Addr} {x y : Str} {q : Str} {params : Arguments} {p1 p2 p3 : Pos} {scope : Scope} {cl : List (Str × Addr)} {pm ctv : Value} {c' ck l : Addr} {us : List Value}
    (L : LamAt h f x y q params p1 p2 p3 scope cl pm ctv c' ck l us) (k : ∀ b o, h.get? b = some o → h'.get? b = some o) : LamAt h' f x y q params p1 p2 p3 scope cl pm ctv c' ck l us :=
  ⟨k _ _ L.fn, let ⟨oc, us, tk, a, b, c⟩ := L.code; ⟨oc, us, tk, k _ _ a, b, c⟩, L.lim.keeps k, L.hck, L.cell.keeps k, L.lst.at fun o e => k _ _ e⟩
theorem min_lam {f a l c' ck : Addr} {q x y : Str} {params : Arguments} {p1 p2 p3 : Pos} {scope : Scope} {cl : List (Str × Addr)} {pm ctv : Value} {cs us : List Value} {ns : Nat → Int} {kf : Nat → Int} {Q : Value → Shared → Prop}
    (hh : A.handled = none) (S : LSc scope x y) (hd : A.depth < recursionLimit) (L : LamAt s.heap f x y q params p1 p2 p3 scope cl pm ctv c' ck l us)
    (hbind : ∀ v : Value, bindArgs (PySem.W.kla_fn "<lambda>" q params (.Subscript (.Name y p1) (.Name x p2) p3) scope cl pm (.ref c') ctv) ⟨[v], []⟩ = pure [(x, v)])
    (hdx : (x == ("__debug__" : Str)) = false) (hdy : (y == ("__debug__" : Str)) = false) (hcy : (y == ("__classdict__" : Str)) = false)
    (ht : s.heap.IsTuple a cs.toArray) (hc : ∀ i, i < cs.length → ∃ t, cs[i]? = some (.int (ns i) t)) (hne : 0 < cs.length)
    (hk : ∀ i, i < cs.length → 0 ≤ ns i ∧ ns i < 2 ^ 63 ∧ ∃ t, us[(ns i).toNat]? = some (.int (kf i) t))
    (h : ∀ v h' tk, cs[argBest (fun i j => decide (kf i < kf j)) (cs.length - 1)]? = some v → (∀ b o, s.heap.get? b = some o → h'.get? b = some o) → Q v { s with heap := h', toks := tk }) :
    wpAny (model prog w) A (call (.builtin "min") [.ref a] [(Str.ofString "key", .ref f)]) Q E s := by
  have hd1 : A.in1.depth < recursionLimit := hd
  refine call_min_walkK (PySem.W.iter_tupleW (A := A.in1) hh ht fun s₂ e2 W st hfp hfr kp2 => ?_)
  have sz2 : s.heap.objs.size < s₂.heap.objs.size := hfp _ List.mem_cons_self
  have old : ∀ {s' : Shared}, Moved [s₂.heap.objs.size, s.heap.objs.size] (fun a b => b = a) s₂ s' → ∀ b o, s.heap.get? b = some o → s'.heap.get? b = some o := fun {s'} m b o e => by
    have lt := Heap.lt_size e
    refine m.heap b o (fun hm => ?_) (kp2 b o e)
    rcases List.mem_cons.mp hm with z | hm
    · rw [z] at lt
      exact Nat.lt_irrefl _ (Nat.lt_trans lt sz2)
    · rw [List.mem_singleton.mp hm] at lt
      exact Nat.lt_irrefl _ lt
  have szc : cs.toArray.size = cs.length := by simp
  refine ⟨s.heap.objs.size, [s.heap.objs.size, a], [s.heap.objs.size], (fun a b => b = a), cs.toArray.size, _, _, fun s' => Moved [s₂.heap.objs.size, s.heap.objs.size] (fun a b => b = a) s₂ s', fun i k _ => ∃ t, k = .int (kf i) t, fun i j => decide (kf i < kf j), rfl, W, st, hfp, by rw [szc]; exact hne, ⟨?_, ?_, ?_, ?_⟩, Moved.refl fun _ => rfl, ?_⟩
  · exact fun s1 s' J m => J.trans (fun _ _ _ h1 h2 => h2.trans h1) m
  · exact fun i k s1 s' v _ => v
  · intro i v s1 o Q' E' hi hP J stI hS cont
    rw [szc] at hi
    obtain ⟨t, ec⟩ := hc i hi
    have ev : v = .int (ns i) t := by
      have hP' : cs[i]? = some v := by simpa using hP
      rw [ec] at hP'
      exact (Option.some.inj hP').symm
    subst ev
    obtain ⟨h0, h1, tk, eu⟩ := hk i hi
    have L1 := L.keeps (old J)
    refine lam_ix S hd1 L1.fn hbind L1.code L1.lim L1.hck L1.cell L1.lst h0 h1 eu hdx hdy hcy fun h' tk' hle kp => ?_
    exact cont _ _ (J.then_heap hle fun b o _ e => kp b o e) (W.frame _ s1 h' tk' stI hle fun b _ o e => kp b o e) (kp _ _ hS) ⟨_, rfl⟩ fun j k' z => z
  · intro i j ki kj s1 Q' E' J vi vj q
    exact CmpOf.ints_lt (prog := prog) (w := w) (A := A.in1) (P := fun i v => ∃ t, v = .int (kf i) t) kf (fun i v h => h) i j ki kj s1 Q' E' vi vj q
  · intro v s' hP J
    rw [szc] at hP
    have hP' : cs[argBest (fun i j => decide (kf i < kf j)) (cs.length - 1)]? = some v := by simpa using hP
    have e : s' = { s with heap := s'.heap, toks := s'.toks } := by
      obtain ⟨hp, g, d, tk, os⟩ := s'
      subst e2
      have h1 : g = s.gens := J.gens
      have h2 : d = s.drawn := J.drawn
      have h3 : os = s.os := J.os
      subst h1 h2 h3
      rfl
    rw [e]
    exact h v s'.heap s'.toks hP' (old J)
end
/-- the first of the least -/
def FirstLeast (kf : Nat → Int) (n j : Nat) : Prop := j < n ∧ (∀ i, i < n → kf j ≤ kf i) ∧ ∀ i, i < j → kf j < kf i
theorem best_is (kf : Nat → Int) : ∀ n, FirstLeast kf (n + 1) (argBest (fun i j => decide (kf i < kf j)) n)
  | 0 => ⟨Nat.zero_lt_one, fun i h => by rw [Nat.lt_one_iff.mp h]; exact Int.le_refl _, fun i h => nomatch h⟩
  | n + 1 => by
    obtain ⟨a, b, c⟩ := best_is kf n
    show FirstLeast kf (n + 2) (if decide (kf (n + 1) < kf (argBest (fun i j => decide (kf i < kf j)) n)) = true then n + 1 else argBest (fun i j => decide (kf i < kf j)) n)
    by_cases h : kf (n + 1) < kf (argBest (fun i j => decide (kf i < kf j)) n)
    · rw [if_pos (decide_eq_true h)]
      refine ⟨by omega, fun i hi => ?_, fun i hi => ?_⟩
      · by_cases e : i = n + 1
        · rw [e]
          exact Int.le_refl _
        · have := b i (by omega)
          omega
      · have := b i (by omega)
        omega
    · rw [if_neg (fun z => h (of_decide_eq_true z))]
      refine ⟨by omega, fun i hi => ?_, c⟩
      by_cases e : i = n + 1
      · rw [e]
        omega
      · exact b i (by omega)
theorem first_one {kf : Nat → Int} {n i j : Nat} (a : FirstLeast kf n i) (b : FirstLeast kf n j) : i = j := by
  rcases Nat.lt_trichotomy i j with h | h | h
  · have h1 := b.2.2 i h
    have h2 := a.2.1 j b.1
    omega
  · exact h
  · have h1 := a.2.2 j h
    have h2 := b.2.1 i a.1
    omega
/-- the item of ns whose key in ks is the least, the first such one -/
def LeastAt (ks ns : List Int) (m : Int) : Prop := ∃ j, FirstLeast (fun i => ks.getD (ns.getD i 0).toNat 0) ns.length j ∧ m = ns.getD j 0
theorem _root_.LamX.ExtN.rd {H H' : Hp} (e : ExtN H H') {a : Addr} {u : HO} (n : ∀ ps, u ≠ .tbl ps) (h : Rd H a u) : Rd H' a u := by
  rcases h with h | ⟨o, h⟩
  · exact .inl (e _ _ h n)
  · exact .inr ⟨o, e _ _ h fun ps z => nomatch z⟩
theorem _root_.LamX.ExtN.sqL {K : PySem.W.Frag} {H H' : Hp} (e : ExtN H H') {a : Addr} {xs : List V} (h : SqL K H a xs) : SqL K H' a xs := h.elim (fun h => .inl (e.rd (fun ps z => nomatch z) h)) .inr
theorem _root_.LamX.ExtN.sqT {K : PySem.W.Frag} {H H' : Hp} (e : ExtN H H') {a : Addr} {xs : List V} (h : SqT K H a xs) : SqT K H' a xs := h.elim (fun h => .inl (e.rd (fun ps z => nomatch z) h)) .inr
section
variable {X : Cx}
def tMinLam (K : PySem.W.Frag) (T : List (Addr × Str)) (j : Nat) (te : TE) : TE := fun σ H Q => te σ H fun v H1 => ∃ (a l : Addr) (ns ks : List Int), v = .ref a ∧ SqT K H1 a (ns.map V.int) ∧ σ[j]? = some (some (.ref l)) ∧ SqL K H1 l (ks.map V.int) ∧ 0 < ns.length ∧ (∀ n ∈ ns, 0 ≤ n ∧ n < ks.length) ∧
  Tabs T H1 ∧ ∀ (m : Int) (H2 : Hp), ExtN H1 H2 → Tabs T H2 → LeastAt ks ns m → Q (.int m) H2
/-- min(e, key=lambda x: y[x]), y a name of the def that it shares with the lambda -/
theorem pe_minlam {T : List (Addr × Str)} {c P : Addr} {p p1 p2 p3 lpos kpos pos : Pos} {e : Expr} {te : TE} {x y : Str} {j : Nat} {params : Arguments} {scope : Scope}
    (hg : Gl X "min") (hm : X.mg "min" = none) (he : PE X e te) (hd : X.A.depth < recursionLimit) (hh : X.A.handled = none) (TB : TabB X.base X.mg c P) (hcode : X.env.code = .ref c) (hmT : (P, X.env.qual ++ "<lambda>") ∈ T)
    (hu : ∀ q ∈ T, q.1 = P → q.2 = X.env.qual ++ "<lambda>") (S : LSc scope x y) (hfy : X.env.scope.names.lookup y = some .cell) (hfr : ∀ z ∈ scope.names, z.2 = .free → z.1 = y) (hN : X.N[j]? = some y) (hdef : defaultsOf params X.env = ([], []))
    (hbind : ∀ (q : Str) (cl : List (Str × Addr)) (pm cv ctv v : Value), bindArgs (PySem.W.kla_fn "<lambda>" q params (.Subscript (.Name y p1) (.Name x p2) p3) scope cl pm cv ctv) ⟨[v], []⟩ = pure [(x, v)])
    (hs : starEach [e] X.env = (false, eval e X.env) :: starEach [] X.env := by rfl)
    (hdx : (x == ("__debug__" : Str)) = false := by decide) (hdy : (y == ("__debug__" : Str)) = false := by decide) (hcy : (y == ("__classdict__" : Str)) = false := by decide) :
    PE X (.Call (.Name "min" p) [e] [⟨some "key", .Lambda params (.Subscript (.Name y p1) (.Name x p2) p3) scope lpos, kpos⟩] pos) (tMinLam X.K T j te) := by
  refine ⟨fun pins s σ H Q I h => ?_⟩
  have hfree : ∀ z ∈ scope.names, z.2 = .free → ∃ c, X.env.cells.lookup z.1 = some c := fun z hz e => I.ok.has _ (.inl (by rw [hfr z hz e]; exact hfy))
  refine wpAny_Call_Name_kw (ld_blt I hg hm (u := .builtin "min") (by decide +kernel) ?_)
  refine PyProof.Rows.callWith_kw ?_ (by rw [hs]; rfl) (by rw [hs]; rfl) (by rfl) (by rfl)
  rw [hs]
  show wpAny _ _ (spliced ((false, eval e X.env) :: backTo pos (starEach [] X.env))) _ _ s
  refine Calls.spliced_cons (thn (he.run pins s σ H _ I h) fun u s1 ⟨v, H1, I1, r1, a, l, ns, ks, ev, ht, hσ, hl, hne, hin, hT, q⟩ => Calls.spliced_nil ?_)
  subst ev
  obtain rfl : u = Value.ref a := r1
  show wpAny _ _ (evalAll ((do let v ← eval (.Lambda params (.Subscript (.Name y p1) (.Name x p2) p3) scope lpos) X.env; standAt pos; pure v) :: [])) _ _ s1
  refine wpAny_evalAll_cons (wpAny_bind (lam_make2 I1 TB hcode hmT hu hT hdef hfree fun f c' pm ctv H2 s2 I2 eN T2 hf hfn hff hco => wpAny_bind (wpAny_standAt (wpAny_pure (wpAny_evalAll_nil ?_)))))
  show wpAny _ _ (call (.builtin "min") [.ref a] [(Str.ofString "key", .ref f)]) _ _ s2
  obtain ⟨cs, rc, tc, _⟩ := I2.tuple (eN.sqT ht)
  obtain ⟨us, ru, pl, hz2⟩ := I2.list (eN.sqL hl)
  obtain ⟨m, _, look⟩ := I2.loc
  obtain ⟨u0, r0, lk⟩ := look j y _ hN hσ (.inr (.inl hfy))
  obtain rfl : u0 = Value.ref l := r0
  have cellAt : ∃ ck, X.env.cells.lookup y = some ck ∧ s2.heap.IsCell ck (some (.ref l)) := by
    rcases lk with ⟨k, _⟩ | ⟨_, ck, e1, e2⟩
    · rw [show X.env.kindOf y = some .cell from hfy] at k
      cases k
    · exact ⟨ck, e1, e2⟩
  obtain ⟨ck, eck, hcell⟩ := cellAt
  obtain ⟨⟨oc, vs, tk, o1, o2, o3⟩, _, _⟩ := I2.hok c' _ hco
  have lc : cs.length = ns.length := by rw [← rc.length, List.length_map]
  have lu : us.length = ks.length := by rw [← ru.length, List.length_map]
  have nsAt : ∀ i, i < ns.length → ∃ t, cs[i]? = some (.int (ns.getD i 0) t) := fun i hi => by
    obtain ⟨z, ez, rz⟩ := rc.get (i := i) (x := V.int (ns.getD i 0)) (by rw [List.getElem?_map, List.getD_eq_getElem?_getD, List.getElem?_eq_getElem hi]; rfl)
    obtain ⟨t, rfl⟩ := rz
    exact ⟨t, ez⟩
  refine min_lam (ns := fun i => ns.getD i 0) (kf := fun i => ks.getD (ns.getD i 0).toNat 0) hh S hd ⟨hf, ⟨oc, vs, tk, o1, o2, o3⟩, I2.nolimit, NdefX.clo_has hfree (PySem.mem_of_lookup S.fy) eck, hcell, pl.isList⟩ (fun v => hbind _ _ _ _ _ v) hdx hdy hcy tc (fun i hi => nsAt i (by omega)) (by omega)
    (fun i hi => ?_) fun v h' tk2 hv kp => ?_
  · have hi' : i < ns.length := by omega
    have hmem : ns.getD i 0 ∈ ns := by rw [List.getD_eq_getElem?_getD, List.getElem?_eq_getElem hi']; exact List.getElem_mem hi'
    obtain ⟨b0, b1⟩ := hin _ hmem
    have hs63 := line63
    rw [List.length_map] at hz2
    have hk' : (ns.getD i 0).toNat < ks.length := by omega
    obtain ⟨z, ez, rz⟩ := ru.get (i := (ns.getD i 0).toNat) (x := V.int (ks.getD (ns.getD i 0).toNat 0)) (by rw [List.getElem?_map, List.getD_eq_getElem?_getD (l := ks), List.getElem?_eq_getElem hk']; rfl)
    obtain ⟨t, rfl⟩ := rz
    exact ⟨b0, by omega, t, ez⟩
  · obtain ⟨n, en⟩ : ∃ n, ns.length = n + 1 := ⟨ns.length - 1, by omega⟩
    have fl := best_is (fun i => ks.getD (ns.getD i 0).toNat 0) n
    rw [← en] at fl
    rw [lc, show ns.length - 1 = n by omega] at hv
    obtain ⟨t, et⟩ := nsAt _ fl.1
    rw [et] at hv
    cases hv
    exact ⟨.int _, H2, I2.kept kp, ⟨t, rfl⟩, q _ H2 eN T2 ⟨_, fl, rfl⟩⟩
end
end Cl

set_option Elab.async false
set_option linter.all false
set_option maxRecDepth 100000
set_option maxHeartbeats 2000000
/-! own rule: list(o), o an instance with an __iter__ over its tuple and a __len__ -/
namespace Tw
open PySem PySem.Spec PyProof.Rows L2
def rListO (K : PySem.W.Frag) (C : Addr) (fld : Str) (sp : Sp) (E : XK) : List V → Hp → VK → Prop := fun xs H Q => ∃ (a dx : Addr) (fs : List (Str × V)) (t : Addr) (zs : List V), xs = [.ref a] ∧ H a = some (.ins C dx fs) ∧ fs.lookup fld = some (.ref t) ∧ SqT K H t zs ∧ zs.length ≤ 900 ∧
  sp [.ref a] H (fun v H' => ∃ n : Nat, v = .int n ∧ n < 1000 ∧ H' = H) E ∧ ∀ q, H q = none → Q (.ref q) (upd H q (.lst zs))
theorem ty_ne {a b : String} (h : Value.type a = Value.type b) (n : decide (a = b) = false) : False := by
  injection h with h
  exact of_decide_eq_false n h
theorem if_yes {α : Type} {M : Model} {A : Around} {E : Value → Shared → Prop} {s : Shared} {c : Bool} {a b : Sem α} {Q : α → Shared → Prop} (hc : c = true) (h : wpAny M A a Q E s) : wpAny M A (if c = true then a else b) Q E s := by
  rw [hc, if_pos rfl]
  exact h
section
variable {X : Cx} {k : Nat} {f : Addr} {fd : FuncData} {ps : List Str} {sp : Sp} {A1 : Around} {pins : List (Addr × Obj)} {σ : L2.St} {H : Hp} {s : Shared} {Q : VK}
/-- a def that raises nothing, called within a built-in -/
theorem run_sub0 {us : List Value} {vs : List V} {R : Value → Shared → Prop} (F : FnOk X.prog X.w X.K X.mg X.base CX0 k f fd ps sp) (sb : Sub X k A1) (hb : L2.Binds X.K fd ps []) (I : Inv X pins σ H s) (r : Vals vs us) (h : sp vs H Q E0) :
    wpAny (model X.prog X.w) A1 (call (.ref f) us) (EP X pins σ Q) R s := by
  have hl : us.length = ps.length := by rw [← r.length]; exact F.len _ _ _ _ h
  have hb1 : BindsTo s fd ⟨us, []⟩ (ps.zip us) := by
    have z := hb s us I.kIn (by rw [List.append_nil]; exact hl)
    rw [List.append_nil] at z
    exact z
  refine wpAny_call (codeAny_mono (F.run A1 X.stack s H ⟨us, []⟩ us vs Q E0 sb.room (Sub.env0 sb I) hb1 r h) fun z s' hq => ?_)
  match z, hq with
  | .error e, hq => exact False.elim hq
  | .ok (.ret u), hq => exact I.after hq
  | .ok .next, hq => exact False.elim hq
  | .ok .brk, hq => exact False.elim hq
  | .ok .cont, hq => exact False.elim hq
end
section
variable {X : Cx} {kI k : Nat} {fi fl C : Addr} {fdI fdL : FuncData} {psL : List Str} {spL : Sp} {fld : Str}
theorem call_listO (hdI : Dn X.K C "__iter__" fi) (FI : FnIt X.prog X.w X.K X.mg X.base k fi fdI ["self"] (spIter X.K C fld)) (bI : L2.Binds X.K fdI ["self"] [])
    (hdL : Dn X.K C "__len__" fl) (FL : FnOk X.prog X.w X.K X.mg X.base CX0 k fl fdL psL spL) (bL : L2.Binds X.K fdL psL []) (hr : Room (k + 3) X.A) : CallR X (.type "list") (rListO X.K C fld spL E0) := by
  intro pins s σ H xs us Q I rv h
  obtain ⟨a, dx, fs, t, zs, rfl, ha, hf, ht, hz, hlen, q⟩ := h
  obtain ⟨u, rfl, ru⟩ := rv.one
  cases ru
  have sb1 : Sub X (k + 1) X.A.in1.in1 := Sub.in1 (Sub.in1 (⟨hr, rfl⟩ : Sub X (k + 3) X.A))
  have sb : Sub X k X.A.in1.in1 := sb1.mono (Nat.le_succ k)
  refine callType_codes (Q₁ := fun obj s₁ => obj = .ref s.heap.objs.size ∧ s₁ = { s with heap := s.heap.push { cls := .type "list", data := .seq #[] } }) PySem.F.called_list (PySem.F.typeCall_list_1 _) PySem.F.entry_list_init
    (code_list_new _ ⟨rfl, rfl⟩) fun obj s₁ h₁ => ?_
  obtain ⟨rfl, rfl⟩ := h₁
  have hS : (s.heap.push { cls := .type "list", data := .seq #[] }).get? s.heap.objs.size = some { cls := .type "list", data := .seq #[] } := Heap.get?_push_size _ rfl
  refine ⟨⟨_, hS, rfl⟩, PySem.F.args_list_init_2 _ _, ?_⟩
  have nS : H s.heap.objs.size = none := I.hok.fresh (Nat.le_refl _)
  have fS : FpOk X pins H s.heap.objs.size := I.fpOk (Nat.le_refl _) nS
  have I1 : Inv X pins σ H { s with heap := s.heap.push { cls := .type "list", data := .seq #[] } } := I.kept (t' := s.toks) fun b u e => Heap.get?_push_of_some _ e
  show wpAny _ _ (do let old ← Builtin.List.listItems (.ref s.heap.objs.size); Builtin.List.listUpdate (.ref s.heap.objs.size) (fun _ => #[]); letGo old.toList.reverse; Builtin.List.listExtendWith (.ref s.heap.objs.size) (.ref a) .none) _ _ _
  refine wpAny_bind ?_
  unfold Builtin.List.listItems
  refine wpAny_bind (wpAny_seqItems hS rfl (wpAny_pure ?_))
  show wpAny _ _ (updateSeq s.heap.objs.size (fun _ => #[]) >>= fun _ => letGo (#[] : Array Value).toList.reverse >>= fun _ => Builtin.List.listExtendWith (.ref s.heap.objs.size) (.ref a) .none) _ _ _
  refine wpAny_bind (wpAny_updateSeq hS rfl ?_)
  have hS2 := Heap.get?_update_self (h := s.heap.push { cls := .type "list", data := .seq #[] }) (f := Obj.mapSeq fun _ => #[]) hS rfl
  have I2 := I1.turnedL (h' := (s.heap.push { cls := .type "list", data := .seq #[] }).update s.heap.objs.size (Obj.mapSeq fun _ => #[])) (t' := s.toks) (ch := [s.heap.objs.size]) (fun b o hb e => (Heap.get?_update_other _ _ (fun z => hb (by simp [z]))).trans e) (fun b hb => by rw [List.mem_singleton.mp hb]; exact fS)
  refine wpAny_bind (wpAny_letGo ?_)
  generalize hSa : s.heap.objs.size = S at *
  generalize hh2 : (s.heap.push { cls := .type "list", data := .seq #[] }).update S (Obj.mapSeq fun _ => #[]) = h2 at *
  have szS : S < h2.objs.size := Heap.lt_size hS2
  obtain ⟨mA, O, rr, _, _, _⟩ := ins_get I2.hok ha
  obtain ⟨od, J, hl⟩ := O.look
  obtain ⟨m0, hF⟩ := I2.fr
  have hne : S ≠ a := fun z => by rw [← z] at ha; rw [nS] at ha; cases ha
  have h1 : Builtin.List.listSameRef (.ref S) (.ref a) = false := by simp [Builtin.List.listSameRef, hne]
  unfold Builtin.List.listExtendWith
  refine wpAny_bind (J.type.here ?_)
  have n2 : (Value.ref C == Value.type "list") = false := rfl
  have n3 : (Value.ref C == Value.type "tuple") = false := rfl
  simp only [h1, n2, n3, Bool.or_false, Bool.false_eq_true, if_false]
  have I2p := I2.pinned (fp := [S]) (fun b hb => by rw [List.mem_singleton.mp hb]; exact fS) (fun b hb => by rw [List.mem_singleton.mp hb]; exact ⟨_, hS2, fun v z => nomatch z⟩)
  refine wpAny_bind (PySem.W.owit_iter hF I2.ok.mod.kin J hdI.at_ hdI.fn (thn (run_iter FI sb bI I2p ha hf ht) fun r s3 ⟨it, er, hn, h0, I3⟩ => ?_))
  subst er
  have e2 : upd H it (ItT t it 0) it = some (ItT t it 0) := upd_same
  have g : s3.heap.get? it = some (itTup t 0) := (I3.hok it _ e2).1
  have hS3 := (I3.pin (S, _) (List.mem_append_right _ (List.mem_append_right _ (mem_pinsAt (List.mem_singleton.mpr rfl) hS2)))).1
  have hTy : s3.TypeIs (.ref it) "tuple_iterator" := ⟨_, g, rfl⟩
  have fIt := ItX.inv_fp I3 e2 (Nat.le_trans I2.sz hn)
  have I4 := ItX.inv_drop I3 e2
  rw [ItX.dropH_upd h0] at I4 fIt
  unfold PySem.W.OwitIt
  refine wpAny_specialOf (name := Str.ofString "__next__") hTy PySem.F.slot_tuple_iterator_next.lookup ?_
  have I5 := I4.pinned (fp := [it]) (fun b hb => by rw [List.mem_singleton.mp hb]; exact fIt) (fun b hb => by rw [List.mem_singleton.mp hb]; exact ⟨_, g, fun v z => nomatch z⟩)
  show wpAny _ X.A.in1.in1 (holding [.ref it] (Builtin.List.listLengthHint (.ref a)) >>= _) _ _ s3
  obtain ⟨mA5, O5, rr5, _, _, _⟩ := ins_get I5.hok ha
  obtain ⟨od5, J5, hl5⟩ := O5.look
  obtain ⟨m5, hF5⟩ := I5.fr
  refine wpAny_bind (wpAny_holding ?_)
  have lenOk : ∀ {R : Value → Shared → Prop}, wpAny (model X.prog X.w) X.A.in1.in1 (call (.builtin "len") [.ref a]) (fun r s' => ∃ (n : Nat) (tk : Tok), r = .int n tk ∧ n < 1000 ∧ Inv X (pins ++ pinsAt [S] h2 ++ pinsAt [it] s3.heap) σ H s') R s3 := by
    intro R
    refine PySem.W.len_K hF5 I5.ok.mod.kin J5 hdL.at_ hdL.fn (thn (run_sub0 FL (Sub.in1 (Sub.mono sb1 (Nat.le_refl _))) bL I5 (.cons (relR a) .nil) hlen) fun r s' ⟨z, H', I', rz, n, ez, hn, eH⟩ => ?_)
    subst ez
    rw [eH] at I'
    obtain ⟨tk, rfl⟩ := rz
    exact ⟨⟨by omega, by omega⟩, n, _, rfl, hn, I'.tok _⟩
  unfold Builtin.List.listLengthHint
  refine wpAny_bind (wpAny_bind (J5.type.here ((PySem.W.looks_findIn I5.kIn hdL.at_).here ?_)))
  refine PySem.W.KFB.if_not rfl ?_
  refine if_yes rfl ?_
  refine wpAny_bind (wpAny_rule ?_)
  refine wpAny_bind (wpAny_attempt (thn lenOk fun r s6 ⟨n, tk, er, hn6, I6⟩ => ?_))
  subst er
  refine wpAny_bind (wpAny_of_eq (a := some ((n : Nat) : Int)) (by rfl) ?_)
  refine PySem.W.KFB.if_not (by unfold Builtin.List.listTooLong; exact decide_eq_false (by rw [sizeLine_eq, Int.toNat_natCast]; omega)) ?_
  refine wpAny_pure ?_
  -- the loop
  have I7 : Inv X pins σ H s6 := I6.unpinned.unpinned
  have hS6 := (I6.pin (S, _) (List.mem_append_right _ (List.mem_append_left _ (List.mem_append_right _ (mem_pinsAt (List.mem_singleton.mpr rfl) hS2))))).1
  have g6 := (I6.pin (it, _) (List.mem_append_right _ (List.mem_append_right _ (mem_pinsAt (List.mem_singleton.mpr rfl) g)))).1
  have fIt2 : FpOk X pins H it := ⟨fIt.1, fIt.2.1, fIt.2.2.1, fIt.2.2.2.1, fIt.2.2.2.2.1, fun p hp => fIt.2.2.2.2.2 p ((List.mem_append.mp hp).elim (fun z => List.mem_append_left _ z) fun z => List.mem_append_right _ (List.mem_append_left _ z))⟩
  have Sne' : S ≠ it := fun z => by
    rw [z, g6] at hS6
    exact ty_ne (show Value.type "tuple_iterator" = Value.type "list" from congrArg Obj.cls (Option.some.inj hS6)) (by decide +kernel)
  have loop : ∀ (s7 : Shared) (c : Nat), Inv X pins σ H s7 → s7.heap.get? S = some { cls := .type "list", data := .seq #[] c } → s7.heap.get? it = some (itTup t 0) →
      codeAny (model X.prog X.w) X.A.in1 (.builtin "list.extend.loop" ⟨[.ref S, .ref it, .none], []⟩) (wants (fun r s₂ => r = .none ∧ EP X pins σ Q (.ref S) s₂) X.xe) s7 := by
    intro s7 c J7 hS7 g7
    obtain ⟨its, rz, pl, hz2⟩ := J7.tuple ht
    have tne : t ≠ it := fun z => by
      obtain ⟨o, e1, e2, _⟩ := pl
      rw [z, g7] at e1
      rw [← Option.some.inj e1] at e2
      exact ty_ne (show Value.type "tuple_iterator" = Value.type "tuple" from e2) (by decide +kernel)
    have Sne : S ≠ it := fun z => by
      rw [z, g7] at hS7
      exact ty_ne (show Value.type "tuple_iterator" = Value.type "list" from congrArg Obj.cls (Option.some.inj hS7)) (by decide +kernel)
    have St : S ≠ t := fun z => by
      obtain ⟨o, e1, e2, _⟩ := pl
      rw [← z, hS7] at e1
      rw [← Option.some.inj e1] at e2
      exact ty_ne (show Value.type "list" = Value.type "tuple" from e2) (by decide +kernel)
    have li : its.length = zs.length := rz.length.symm
    have W := (PySem.Walks.tuple (prog := X.prog) (w := X.w) (A := X.A.in1.in1) sb1.room.hd it t tne its.toArray).toS
    refine PySem.codeAny_extend_loopS (A := X.A.in1) W (by rw [List.size_toArray, sizeLine_eq]; omega) S (fun z => ?_) .none _ 0 s7 #[] c rfl (Nat.zero_le _) ⟨⟨_, g7, rfl, rfl⟩, pl⟩ hS7 (PySem.ItemsOf.nil _) fun s8 acc c8 m hS8 hit => ?_
    · rcases List.mem_cons.mp z with z | z
      · exact Sne z
      · exact St (List.mem_singleton.mp z)
    have eacc : acc = its.toArray := by
      refine Array.ext_getElem? fun j => ?_
      by_cases hj : j < acc.size
      · rw [Array.getElem?_eq_getElem hj]
        exact (hit.2 j _ (Array.getElem?_eq_getElem hj)).symm
      · rw [Array.getElem?_eq_none (by omega), Array.getElem?_eq_none (by rw [← hit.1]; omega)]
    subst eacc
    have J8 := J7.turnedL (h' := s8.heap) (t' := s8.toks) (ch := [S, it]) (fun b o hb e => m.heap b o hb e) (fun b hb => by
      rcases List.mem_cons.mp hb with z | z
      · rw [z]; exact fS
      · rw [List.mem_singleton.mp z]; exact fIt2)
    have J9 := J8.take (h' := s8.heap) (t' := s8.toks) (it := S) (o := .lst zs) (fun _ _ _ e => e) fS ⟨by rw [sizeLine_eq]; omega, its, c8, rz, hS8⟩
    have e8 : s8 = { s7 with heap := s8.heap, toks := s8.toks } := Moved.eq_with m
    rw [e8]
    exact ⟨rfl, .ref S, _, J9, rfl, q S nS⟩
  refine wpAny_ite_split (fun _ => ?_) (fun _ => wpAny_pure ⟨plainId_quiet PySem.F.plain_extend_loop _, loop s6 _ I7 hS6 g6⟩)
  refine wpAny_bind (wpAny_rule ?_)
  refine wpAny_bind ?_
  show wpAny _ _ (updateSeq S (·.push .none) >>= fun _ => updateSeq S (·.pop)) _ _ _
  refine wpAny_bind (wpAny_updateSeq hS6 rfl ?_)
  have e9 := Heap.get?_update_self (h := s6.heap) (f := Obj.mapSeq (·.push Value.none)) hS6 rfl
  refine wpAny_updateSeq e9 rfl ?_ (by show 1 ≤ sizeLine; rw [sizeLine_eq]; decide) (by show 0 ≤ sizeLine + 1; exact Nat.zero_le _)
  have e10 := Heap.get?_update_self (h := s6.heap.update S (Obj.mapSeq (·.push Value.none))) (f := Obj.mapSeq (·.pop)) e9 rfl
  have J := I7.turnedL (h' := (s6.heap.update S (Obj.mapSeq (·.push Value.none))).update S (Obj.mapSeq (·.pop))) (t' := s6.toks) (ch := [S]) (fun b o hb e => (Heap.get?_update_other _ _ (fun z => hb (by simp [z]))).trans ((Heap.get?_update_other _ _ (fun z => hb (by simp [z]))).trans e)) (fun b hb => by rw [List.mem_singleton.mp hb]; exact fS)
  refine wpAny_pure ⟨plainId_quiet PySem.F.plain_extend_loop _, loop _ _ J e10 ?_⟩
  exact (Heap.get?_update_other _ _ Sne').trans ((Heap.get?_update_other _ _ Sne').trans g6)
end
end Tw

set_option Elab.async false
set_option linter.all false
set_option maxRecDepth 100000
set_option maxHeartbeats 2000000
/-! own rule: sorted(t), t a tuple of whole numbers -/
namespace Tw
open PySem PySem.Spec PyProof.Rows L2
section
variable {prog : Program} {w : World} {A : Around} {E : Value → Shared → Prop} {s : Shared}
/-- a tuple's items, gathered: they are met as a list's are -/
theorem gather_tup {t : Addr} {vs : List Value} {Q : List Value → Shared → Prop} (ht : s.heap.IsTuple t vs.toArray)
    (h : Q vs { s with heap := (s.heap.push (seqObj "list" #[] 0)).update s.heap.objs.size (Obj.mapSeq (· ++ vs.toArray)) }) (hz : vs.length ≤ sizeLine) :
    wpAny (model prog w) A (collect (.ref t)) Q E s := by
  obtain ⟨o, ho, hc, n, hd⟩ := ht
  unfold collect
  refine wpAny_bind (wpAny_runValue (codeAny_builtin entry_proto_collect' ?_))
  show wpAny _ _ (do again (.builtin "list.__iadd__" ⟨[← newList [], .ref t], []⟩)) _ _ s
  refine wpAny_bind (wpAny_newList (wpAny_pure ⟨Code.quiet_builtin _ (by decide +kernel), codeAny_builtin entry_list_iadd' ?_⟩))
  show wpAny _ _ (Builtin.List.listExtendWith (.ref s.heap.objs.size) (.ref t) (.ref s.heap.objs.size)) _ _ { s with heap := s.heap.push (seqObj "list" #[] 0) }
  have ho2 : (s.heap.push (seqObj "list" #[] 0)).get? t = some o := Heap.get?_push_of_some _ ho
  unfold Builtin.List.listExtendWith
  refine wpAny_bind (wpAny_typeOf (T := "tuple") ⟨o, ho2, hc⟩ ?_)
  have tt : (Value.type "tuple" == Value.type "tuple") = true := by rfl
  rw [if_pos (by rw [tt]; simp)]
  refine wpAny_bind (listItems_at ho2 hd ?_)
  refine wpAny_bind (listItems_at (xs := #[]) (n := 0) (Heap.get?_push_size _ rfl) rfl ?_)
  rw [if_neg (by simp)]
  refine wpAny_bind (listUpdate_at (xs := #[]) (n := 0) (Heap.get?_push_size _ rfl) rfl ?_ (Nat.zero_le _) (by show (#[] ++ vs.toArray).size ≤ sizeLine + 1; simp only [Array.size_append, List.size_toArray, List.length_nil]; omega))
  refine wpAny_pure ?_
  refine wpAny_bind (wpAny_load (get?_update_seq (Heap.get?_push_size _ rfl) _) ?_)
  show wpAny _ _ (pure ((#[] : Array Value) ++ vs.toArray).toList) Q E _
  rw [show ((#[] : Array Value) ++ vs.toArray).toList = vs by simp]
  exact wpAny_pure h
end
def rSortedTu (K : PySem.W.Frag) : List V → Hp → VK → Prop := fun vs H Q => ∃ (a : Addr) (ns : List Int), vs = [V.ref a] ∧ SqT K H a (ns.map V.int) ∧
  ∀ (ns' : List Int) (p : Addr), ns'.Perm ns → ns'.Pairwise (· ≤ ·) → H p = none → Q (.ref p) (upd H p (.lst (ns'.map V.int)))
section
variable {X : Cx}
theorem cr_sortedTu : CallR X (.builtin "sorted") (rSortedTu X.K) := by
  intro pins s σ H vs us Q I r h
  obtain ⟨a, ns, rfl, hs, q⟩ := h
  obtain ⟨its, rv, hl, hz⟩ := I.tuple hs
  rw [Vals.ref1 r]
  have hi := rv.ints
  have hzi : its.length ≤ sizeLine := by rw [← rv.length]; exact hz
  refine Calls.call_function_entry kind_sorted plain_sorted entry_sorted (args_sorted1 _) ?_
  unfold Builtin.«sorted»
  refine wpAny_bind (m := checkCount "sorted" 1 1 _) (wpAny_pure ?_)
  refine wpAny_bind (gather_tup hl ?_ hzi)
  refine wpAny_bind (wpAny_newList ?_ hzi)
  have hsz : ((s.heap.push (seqObj "list" #[] 0)).update s.heap.objs.size (Obj.mapSeq (· ++ its.toArray))).objs.size = s.heap.objs.size + 1 := by
    rw [Heap.size_update, size_push']
  have hoL : (((s.heap.push (seqObj "list" #[] 0)).update s.heap.objs.size (Obj.mapSeq (· ++ its.toArray))).push (seqObj "list" its.toArray 0)).get? (s.heap.objs.size + 1) = some (seqObj "list" its.toArray 0) := by
    rw [← hsz]
    exact Heap.get?_push_size _ rfl
  show wpAny _ _ _ _ _ { s with heap := ((s.heap.push (seqObj "list" #[] 0)).update s.heap.objs.size (Obj.mapSeq (· ++ its.toArray))).push (seqObj "list" its.toArray 0) }
  rw [hsz]
  refine wpAny_bind (wpAny_holding (wpAny_call_entry slot_list_sort ⟨_, hoL, rfl⟩ entry_list_sort (SrtO.list_sort_ord SrtO.swo_int hoL hzi (fun h2 => SrtO.ints_sortable hi h2) fun out h1 h2 => ⟨_, rfl, ?_⟩) (args_list_sort _)))
  refine wpAny_pure ⟨_, rfl, ?_⟩
  obtain ⟨k1, k2, k3⟩ := SrtO.ints_out hi h1 h2
  obtain ⟨ep, he'⟩ := PyProof.Rows.sortedAll_at s.heap its out.toArray
  have hlen : ((out.map SrtO.iv).map V.int).length ≤ sizeLine := by
    rw [List.length_map, k2.length_eq]
    rw [List.length_map] at hz
    exact hz
  exact ⟨.ref _, upd H (s.heap.objs.size + 1) (.lst ((out.map SrtO.iv).map V.int)), I.laid (t' := s.toks) (fun _ _ => PyProof.Rows.sortedAll_old) (Nat.le_succ _) ⟨hlen, out, ep, vals_of_ints k1, he'⟩, rfl, q _ _ k2 k3 (I.hok.fresh (Nat.le_succ _))⟩
end
end Tw

set_option Elab.async false
set_option linter.all false
set_option maxRecDepth 100000
set_option maxHeartbeats 1000000
/-! != of two tuples of two things, equal ones in turn -/
namespace Cq
open PySem PySem.SeqAt
open AutoSeq1 (wpAny_loadPart')
open MeetsSeq MeetsSeq2 MeetsSeq3 SeqRoads2
theorem pairs_ne {prog : Program} {w : World} {A : Around} {R : Result → Shared → Prop} {p q : Addr} {a b c e : Value} {k k2 : Nat} {u u2 : Option Addr} {z z2 : Array (Option Value)} {s : Shared}
    (hp : s.heap.get? p = some { cls := .type "tuple", dict := u, data := .seq #[a, b] k, slots := z }) (hq : s.heap.get? q = some { cls := .type "tuple", dict := u2, data := .seq #[c, e] k2, slots := z2 })
    (h : wpAny (model prog w) A.in1 (eqBool a c) (fun r s1 => r = true ∧ wpAny (model prog w) A.in1 (eqBool b e) (fun r s2 => r = true ∧ R (.ok (.ret (.bool false))) s2) (fun x s2 => R (.error x) s2) s1) (fun x s1 => R (.error x) s1) s) :
    wpAny (model prog w) A.in1 (Builtin.«tuple.__ne__» ⟨[.ref p, .ref q], []⟩) (GQ.FinOf prog w A R) (fun x s1 => R (.error x) s1) s := by
  have sub2 := AutoSeq1.sub_tuple_tuple
  obtain ⟨hh, gg, dd, tk, os⟩ := s
  wp_walk using wpAny_loadPart' hp, wpAny_loadPart' hq, wpAny_forIn_list _ (fun rest t s1 => t.1 = none ∧ ((rest = [(a, c), (b, e)] ∧ wpAny (model prog w) A.in1 (eqBool a c) (fun r s1 => r = true ∧ wpAny (model prog w) A.in1 (eqBool b e) (fun r s2 => r = true ∧ R (.ok (.ret (.bool false))) s2) (fun x s2 => R (.error x) s2) s1) (fun x s1 => R (.error x) s1) s1) ∨
    (rest = [(b, e)] ∧ wpAny (model prog w) A.in1 (eqBool b e) (fun r s2 => r = true ∧ R (.ok (.ret (.bool false))) s2) (fun x s2 => R (.error x) s2) s1) ∨ (rest = [] ∧ R (.ok (.ret (.bool false))) s1))) _
  case turn =>
    rintro ⟨y, x⟩ rest t s1 ⟨ht, ⟨e1, h1⟩ | ⟨e1, h1⟩ | ⟨e1, _⟩⟩
    · injection e1 with e1 e2
      injection e1 with e3 e4
      subst e3 e4 e2
      refine wpAny_bind (wpAny_mono h1 (fun r s2 g => ?_) fun _ _ g => g)
      obtain ⟨rfl, g⟩ := g
      wp_walk
      exact ⟨rfl, .inr (.inl ⟨rfl, g⟩)⟩
    · injection e1 with e1 e2
      injection e1 with e3 e4
      subst e3 e4 e2
      refine wpAny_bind (wpAny_mono h1 (fun r s2 g => ?_) fun _ _ g => g)
      obtain ⟨rfl, g⟩ := g
      wp_walk
      exact ⟨rfl, .inr (.inr ⟨rfl, g⟩)⟩
    · cases e1
  case fin =>
    rintro ⟨t1, t2⟩ s1 ⟨ht, ⟨e1, _⟩ | ⟨e1, _⟩ | ⟨_, h1⟩⟩
    · cases e1
    · cases e1
    · simp only at ht
      subst ht
      wp_walk
      simpa [Builtin.Tuple.tupleCompareSizes] using h1
  case h => exact ⟨rfl, .inl ⟨rfl, h⟩⟩
end Cq
namespace L2
open PySem PySem.Spec PyProof.Rows
theorem vals_two {a b : V} {l : List Value} (r : Vals [a, b] l) : ∃ x y, l = [x, y] ∧ RelV a x ∧ RelV b y := by
  cases r with
  | cons ra r =>
    cases r with
    | cons rb r =>
      cases r
      exact ⟨_, _, rfl, ra, rb⟩
def DPair (K : PySem.W.Frag) (D1 D2 : Eqv) : Eqv := fun x y H => ∃ (p q : Addr) (a b c e : V), x = .ref p ∧ y = .ref q ∧ SqT K H p [a, b] ∧ SqT K H q [c, e] ∧ D1 a c H ∧ D2 b e H
def rNeP (D : Eqv) : R2 := fun x y H Q => D x y H ∧ ∀ H', Ext H H' → Q (.bl false) H'
theorem op_neP {X : Cx} {n : Nat} {D1 D2 : Eqv} (g1 : EqG X n D1) (g2 : EqG X n D2) (m2 : Mon D2) (hr : Room (n + 1) X.A) : OpR X (compareOp .NotEq) (rNeP (DPair X.K D1 D2)) := by
  intro pins s σ H x y v u Q I rx ry ⟨⟨p, q, a, b, c, e, ex, ey, hp, hq, d1, d2⟩, k⟩
  subst ex ey
  cases rx
  cases ry
  have sb : Sub X (n + 1) X.A := ⟨hr, rfl⟩
  obtain ⟨its, r, e1, _⟩ := I.tuple hp
  obtain ⟨its2, r2, e2, _⟩ := I.tuple hq
  obtain ⟨va, vb, ei, ra, rb⟩ := vals_two r
  obtain ⟨vc, ve, ei2, rc, re⟩ := vals_two r2
  subst ei ei2
  obtain ⟨⟨cl, u1, da, z1⟩, o1, c1, n1, w1⟩ := id e1
  obtain ⟨⟨cl2, u2, da2, z2⟩, o2, c2, n2, w2⟩ := id e2
  dsimp only at c1 w1 c2 w2
  subst c1 w1 c2 w2
  show wpAny (model X.prog X.w) X.A (richCompare .NotEq (.ref p) (.ref q)) (EP X pins σ Q) X.xe s
  refine wpAny_richCompare_same_room (op := .NotEq) ⟨_, o1, rfl⟩ ⟨_, o2, rfl⟩ F.slot_tuple_ne (GQ.call_here F.slot_tuple_ne ⟨_, o1, rfl⟩ F.entry_tuple_ne (F.args_tuple_ne_2 _ _) ?_) hr.units0
  refine Cq.pairs_ne (R := wants (fun v s' => v ≠ .notImplemented ∧ EP X pins σ Q v s') X.xe) o1 o2 ?_
  refine wpAny_mono (g1 X.A.in1 pins s σ H _ _ va vc sb.in1 I ra rc d1) (fun t s1 ⟨ht, H1, I1, x1⟩ => ⟨ht, ?_⟩) fun _ _ g => g
  refine wpAny_mono (g2 X.A.in1 pins s1 σ H1 _ _ vb ve sb.in1 I1 rb re (m2 _ _ _ _ x1 d2)) (fun t s2 ⟨ht, H2, I2, x2⟩ => ⟨ht, ?_⟩) fun _ _ g => g
  exact ⟨(fun g => nomatch g), .bl false, H2, I2, rfl, k H2 (x1.trans x2)⟩
end L2


set_option Elab.async false
set_option linter.all false
set_option maxRecDepth 100000
set_option maxHeartbeats 4000000
/-! set(xs), xs a list of ints, as a value -/
namespace L2
open PySem PySem.Spec PyProof.Rows
section
variable {P : Program} {w : World} {A : Around} {E : Value → Shared → Prop}
/-- the set that is there at first -/
abbrev eS (w : World) : Obj := { cls := .type "set", dict := none, data := .set #[] 0 (.fresh 0 0 (!w.params.followText "set-order")) }
theorem init_over {z : Shared} {D l : Addr} {items : Array Value} {ns : List Int} {R : Result → Shared → Prop} (hh : A.handled = none) (hD : z.heap.get? D = some (eS w)) (hl : z.heap.IsList l items) (hit : IntsAre items.toList ns) (hb : ns.length + 1 < scanBound) (hne : l ≠ D)
    (q : ∀ (h' : Heap) (tk c : Nat), SetR w h' D (fun j => decide (j ∈ ns)) c → c ≤ ns.length → (∀ b o, b ≠ D → z.heap.get? b = some o → h'.get? b = some o) → R (.ok (.ret .none)) { z with heap := h', toks := tk }) :
    codeAny (model P w) A (.call (.builtin "set.__init__") ⟨[.ref D, .ref l], []⟩) R z := by
  have hn : items.size = ns.length := by
    have e := IntsAre.length hit
    rw [Array.length_toList] at e
    exact e
  have hT : Shared.TypeIs z (.ref D) "set" := ⟨_, hD, rfl⟩
  have lD : D < z.heap.objs.size := Heap.lt_size hD
  obtain ⟨⟨oc, od, oa, os⟩, hol, hcl, nl, hdl⟩ := id hl
  have ll : l < z.heap.objs.size := Heap.lt_size hol
  dsimp only at hcl hdl
  subst hcl hdl
  have no1 := F.sub_list_set
  have no2 := F.sub_list_frozenset
  have no3 : (Value.type "list" == Value.type "dict") = false := by decide
  refine codeAny_call_builtin F.called_set.init.plain F.entry_set_init (check_set_init_1 hT ?_)
  unfold Builtin.«set.__init__» noKeywords Builtin.Frozenset.updateFrom
  generalize hPI : pyIter = PI
  wp_walk
  subst hPI
  refine wpAny_pyIter_list hl ?_
  refine wpAny_bind (wpAny_runValue ?_)
  have free3 : A.in1.in1.handled = none := by simp [hh]
  have apart : l ≠ z.heap.objs.size := Nat.ne_of_lt ll
  have offS : D ∉ [z.heap.objs.size, l] := fun m => by
    rcases List.mem_cons.mp m with y | y
    · exact absurd y (Nat.ne_of_lt lD)
    · exact hne (List.mem_singleton.mp y).symm
  have each : ∀ (i : Nat) (v : Value), items[i]? = some v → ∃ k t, ns[i]? = some k ∧ v = .int k t := fun i v e => by
    have hi : i < ns.length := hn ▸ (Array.getElem?_eq_some_iff.mp e).1
    obtain ⟨t, e2⟩ := IntsAre.int_at hit i v (by rw [Array.getElem?_toList]; exact e)
    exact ⟨ns[i], t, List.getElem?_eq_getElem hi, by rw [e2, List.getD_eq_getElem?_getD, List.getElem?_eq_getElem hi]; rfl⟩
  refine set_update_ints ((Walks.list free3 _ l apart items).toS) D offS ns hn hb each (items.size - 0) 0 _ (by omega) (Nat.zero_le _) ?_ ⟨0, Nat.le_refl 0, ?_⟩ ?_
  · exact ⟨⟨_, Heap.get?_push_size _ rfl, rfl, rfl⟩, hl.push _⟩
  · exact setR_new_at (Heap.get?_push_of_some _ hD)
  rintro ⟨h', gens', drawn', tk', os'⟩ c moved hc new
  obtain rfl : gens' = z.gens := moved.gens
  obtain rfl : drawn' = z.drawn := moved.drawn
  obtain rfl : os' = z.os := moved.os
  show wpAny _ _ _ _ _ _
  refine wpAny_pure ?_
  show wpAny _ _ (ret Value.none) _ _ _
  refine wpAny_pure (q h' tk' c new (by omega) fun b o hbD e => ?_)
  have lb : b < z.heap.objs.size := Heap.lt_size e
  refine moved.heap b o (fun m => ?_) (Heap.get?_push_of_some _ e)
  rcases List.mem_cons.mp m with y | y
  · exact hbD y
  · exact absurd (List.mem_singleton.mp y) (Nat.ne_of_lt lb)
theorem set_over {z : Shared} {l : Addr} {items : Array Value} {ns : List Int} {Q : Value → Shared → Prop} (hh : A.handled = none) (hl : z.heap.IsList l items) (hit : IntsAre items.toList ns) (hb : ns.length + 1 < scanBound)
    (q : ∀ (h' : Heap) (tk c : Nat), SetR w h' z.heap.objs.size (fun j => decide (j ∈ ns)) c → c ≤ ns.length → (∀ b o, z.heap.get? b = some o → h'.get? b = some o) → Q (.ref z.heap.objs.size) { z with heap := h', toks := tk }) :
    wpAny (model P w) A (call (.type "set") [.ref l]) Q E z := by
  obtain ⟨c0, t0, mro0⟩ := F.called_set.mro
  have m1 := F.called_set.made
  have m2 := F.called_set.sub
  have m3 := F.called_set.notType
  have m4 := F.called_set.canCreate
  have m5 := F.typeCall_set_1 (.ref l)
  have ll : l < z.heap.objs.size := by
    obtain ⟨o, ho, _⟩ := id hl
    exact Heap.lt_size ho
  refine wpAny_call (codeAny_of_tree ?_)
  show wpAny _ _ (callAny (.type "set") _) _ _ _
  refine wpAny_pure ⟨Code.quiet_builtin _ (by decide +kernel), codeAny_builtin F.entry_type_call ?_⟩
  rw [Around.under_plain (weight_type_call_type "set" [.ref l] []) rfl]
  repeat any_goals first | assumption | wp_step
  have new1 : (z.heap.push (eS w)).get? z.heap.objs.size = some (eS w) := Heap.get?_push_size _ rfl
  refine codeAny_mono (code_set_led1 (.ref l) (E := E) (Q₁ := fun v y => v = .ref z.heap.objs.size ∧ y = { z with heap := z.heap.push (eS w) }) ⟨rfl, rfl⟩) fun r y hr => ?_
  cases r with
  | error e => exact hr
  | ok fl =>
    cases fl with
    | ret v =>
      obtain ⟨rfl, rfl⟩ := hr
      have hT : Shared.TypeIs { z with heap := z.heap.push (eS w) } (.ref z.heap.objs.size) "set" := ⟨_, new1, rfl⟩
      have i1 := F.called_set.init.lookup
      have i2 := F.called_set.init.bind (.ref z.heap.objs.size)
      repeat any_goals first | assumption | wp_step
      refine init_over (A := A.in1) (z := { z with heap := z.heap.push (eS w) }) (D := z.heap.objs.size) (by simp [hh]) new1 (hl.push _) hit hb (Nat.ne_of_lt ll) fun h' tk c S hc k => ?_
      show wpAny _ _ (pure (some Value.none)) _ _ _
      repeat any_goals first | assumption | wp_step
      exact q h' tk c S hc fun b o e => k b o (Nat.ne_of_lt (Heap.lt_size e)) (Heap.get?_push_of_some _ e)
    | _ => exact hr.elim
end
section
variable {X : Cx}
/-- set(xs) -/
def rSetLI (K : PySem.W.Frag) (w : World) : List V → Hp → VK → Prop := fun xs H Q => ∃ (l : Addr) (ns : List Int), xs = [V.ref l] ∧ SqL K H l (ns.map V.int) ∧ ns.length ≤ 1000 ∧ ∀ p n, n ≤ ns.length → H p = none → Q (.ref p) (upd H p (SetO w p (fun j => decide (j ∈ ns)) n))
theorem cr_setLI (hc : X.calm = true) : CallR X (.type "set") (rSetLI X.K X.w) := by
  intro pins s σ H xs us Q I r h
  obtain ⟨l, ns, rfl, hl, h1, q⟩ := h
  obtain ⟨its, rv, pl, _⟩ := I.list hl
  rw [Vals.ref1 r]
  refine set_over (I.ok.hd hc) pl.isList (ns := ns) (by simpa using rv.ints) (by unfold scanBound; omega) fun h' tk c R hc k => ?_
  exact ⟨.ref _, upd H s.heap.objs.size (SetO X.w s.heap.objs.size (fun j => decide (j ∈ ns)) c), I.laid (t' := tk) k (Nat.le_refl _) (setO_new R), rfl, q _ c hc (I.hok.fresh (Nat.le_refl _))⟩
end
end L2

set_option Elab.async false
set_option linter.all false
set_option maxRecDepth 100000
set_option maxHeartbeats 4000000
/-! sorted(xs), xs a list of tuples of ints, as long as a list may be -/
namespace L2
open PySem PySem.Spec PyProof.Rows PySem.W
abbrev tupE (ns : List Int) : PyData := .tuple (ns.map .int)
theorem tupE_le : dataLe false tupE = fun p q => decide (p ≤ q) := by
  funext p q
  show (!dataLt (.tuple (q.map .int)) (.tuple (p.map .int))) = _
  rw [dataLt_tuple]
  show (!rowLt (q.map .int) (p.map .int)) = _
  rw [dataLt_ints]
  by_cases h : q < p
  · have h' : ¬ p ≤ q := fun r => List.not_lt.mpr r h
    simp [h, h']
  · have h' : p ≤ q := List.not_lt.mp h
    simp [h, h']
section
variable {X : Cx} {pins : List (Addr × Obj)} {σ : St} {H : Hp} {s : Shared}
abbrev TupV (K : PySem.W.Frag) (H : Hp) (u : Value) (ns : List Int) : Prop := ∃ t, u = .ref t ∧ SqT K H t (ns.map V.int)
theorem tupV_of : ∀ {xs : List V} {bs : List (List Int)} {us : List Value}, Paired (TupI X.K H) xs bs → Vals xs us → EachIs (TupV X.K H) us bs
  | _, _, _, .nil, .nil => .nil
  | _, _, _, .cons ⟨t, e, h⟩ p, .cons r v => by
    subst e
    cases r
    exact .cons ⟨t, rfl, h⟩ (tupV_of p v)
theorem tupV_to : ∀ {bs : List (List Int)} {us : List Value}, EachIs (TupV X.K H) us bs → Paired (TupI X.K H) (us.map bkV) bs ∧ ∀ u ∈ us, ∃ a, u = Value.ref a
  | _, _, .nil => ⟨.nil, fun u hu => absurd hu (by simp)⟩
  | _, _, .cons ⟨t, e, h⟩ p => by
    subst e
    obtain ⟨h1, h2⟩ := tupV_to p
    refine ⟨.cons ⟨t, rfl, h⟩ h1, fun u hu => ?_⟩
    rcases List.mem_cons.mp hu with e | hu
    · exact ⟨t, e⟩
    · exact h2 u hu
theorem tupV_reads (I : Inv X pins σ H s) {u : Value} {ns : List Int} (h : TupV X.K H u ns) : ∃ as, Reads s.heap u (tupE ns) as := by
  obtain ⟨t, rfl, ht⟩ := h
  obtain ⟨its, rv, hT, _⟩ := I.tuple ht
  exact ⟨_, reads_tuple_ints hT (by simpa using rv.ints)⟩
/-- sorted(xs): the items ascending as tuples are -/
def rSortTA (K : PySem.W.Frag) : List V → Hp → VK → Prop := fun vs H Q => ∃ (a : Addr) (xs : List V) (bs : List (List Int)), vs = [V.ref a] ∧ SqL K H a xs ∧ Paired (TupI K H) xs bs ∧ (∀ b ∈ bs, b ≠ []) ∧
  ∀ (ys : List V) (p : Addr), Paired (TupI K H) ys (bs.mergeSort fun p q => decide (p ≤ q)) → H p = none → Q (.ref p) (upd H p (.lst ys))
theorem cr_sortTA (hu : X.A.units + 65 < cLine) : CallR X (.builtin "sorted") (rSortTA X.K) := by
  intro pins s σ H vs us Q I r h
  obtain ⟨a, xs, bs, rfl, hs, hp, hne, q⟩ := h
  obtain ⟨its, rv, hl, hz⟩ := I.list hs
  rw [Vals.ref1 r]
  have e0 : EachIs (TupV X.K H) its bs := tupV_of hp rv
  have hlen : bs.length = xs.length := (Paired.length hp).symm
  refine sorted_data (A := X.A) (R := TupV X.K H) (enc := tupE) hl.isList e0 (e0.mono fun u ns h => tupV_reads I h) (AllAlike.of fun b b' => by simp [alike, alike_ints]) (.inl fun d hd => ?_) (by rw [hlen]; exact hz) (fun b _ => ?_) fun out ho eo => ?_
  · obtain ⟨b, hb, rfl⟩ := List.mem_map.mp hd
    match b, hne b hb with
    | x :: r, _ => exact ⟨_, _, rfl⟩
  · have : (tupE b).depth ≤ 1 := by simp [PyData.depth, depth_ints]
    omega
  · rw [tupE_le] at eo
    obtain ⟨e1, e2⟩ := tupV_to eo
    obtain ⟨ep, he'⟩ := PyProof.Rows.sortedAll_at s.heap its out.toArray
    have hz2 : (out.map bkV).length ≤ sizeLine := by
      rw [List.length_map, ho, hlen]
      exact hz
    exact ⟨.ref _, upd H (s.heap.objs.size + 1) (.lst (out.map bkV)), I.laid (t' := s.toks) (fun _ _ => PyProof.Rows.sortedAll_old) (Nat.le_succ _) ⟨hz2, out, ep, bkV_vals e2, he'⟩, rfl, q _ _ e1 (I.hok.fresh (Nat.le_succ _))⟩
end
end L2

set_option Elab.async false
set_option linter.all false
set_option maxRecDepth 100000
set_option maxHeartbeats 4000000
/-! math.factorial -/
namespace L2
open PySem PySem.Spec PyProof.Rows
section
variable {X : Cx}
abbrev facN (n : Nat) : Nat := PySem.Builtin.Math.factorialNat n
def rFac : List V → Hp → VK → Prop := fun vs H Q => ∃ n : Nat, vs = [.int n] ∧ n ≤ 20000 ∧ Q (.int (facN n : Nat)) H
theorem cr_fac : CallR X (.builtin "math.factorial") rFac := by
  intro pins s σ H vs us Q I r h
  obtain ⟨n, rfl, hn, q⟩ := h
  cases r with
  | cons r1 r2 =>
    cases r2
    obtain ⟨t, rfl⟩ := r1
    exact PySem.W.mc_factorial (by omega) (by omega) fun _ => ⟨.int _, H, I.tok _, ⟨_, rfl⟩, q⟩
end
end L2

set_option Elab.async false
set_option linter.all false
set_option maxRecDepth 100000
set_option maxHeartbeats 4000000
/-! sorted(xs), xs a list of one item at most, whatever it is -/
namespace L2
open PySem PySem.Spec PyProof.Rows PySem.W
section
variable {X : Cx}
def rSort1 (K : PySem.W.Frag) : List V → Hp → VK → Prop := fun vs H Q => ∃ (a : Addr) (xs : List V), vs = [V.ref a] ∧ SqL K H a xs ∧ xs.length ≤ 1 ∧
  ∀ p : Addr, H p = none → Q (.ref p) (upd H p (.lst xs))
theorem cr_sort1 : CallR X (.builtin "sorted") (rSort1 X.K) := by
  intro pins s σ H vs us Q I r h
  obtain ⟨a, xs, rfl, hs, h1, q⟩ := h
  obtain ⟨its, rv, hl, hz⟩ := I.list hs
  rw [Vals.ref1 r]
  have hlen : xs.length = its.length := rv.length
  refine Srt.sorted_any hl.isList (by omega) (fun h2 => by omega) fun out hp => ?_
  have e : out = its := by
    match its, hlen with
    | [], _ => exact List.Perm.eq_nil hp
    | [x], _ => exact List.perm_singleton.mp hp
    | _ :: _ :: _, hl => simp only [List.length_cons] at hl; omega
  subst e
  obtain ⟨ep, he'⟩ := PyProof.Rows.sortedAll_at s.heap out out.toArray
  exact ⟨.ref _, upd H (s.heap.objs.size + 1) (.lst xs), I.laid (t' := s.toks) (fun _ _ => PyProof.Rows.sortedAll_old) (Nat.le_succ _) ⟨hz, out, ep, rv, he'⟩, rfl, q _ (I.hok.fresh (Nat.le_succ _))⟩
end
end L2

set_option Elab.async false
set_option linter.all false
set_option maxRecDepth 100000
set_option maxHeartbeats 4000000
/-! xs.extend(t), t a tuple -/
namespace PySem
open PySem PySem.W PySem.AutoSeq1
theorem ext_tup {l b : Addr} {items items2 : Array Value} {n n2 : Nat} {dc : Option Addr} {sl : Array (Option Value)} (hs0 : ¬(!items.isEmpty && Builtin.List.listTooLong (items.size + items2.size)) = true) (hs1 : items.size ≤ sizeLine) (hs2 : items.size + items2.size ≤ sizeLine + 1) :
    Meets (Builtin.«list.extend» ⟨[.ref l, .ref b], []⟩) (fun _ R s => s.heap.get? l = some { cls := .type "list", dict := none, data := .seq items n, slots := #[] } ∧ s.heap.get? b = some { cls := .type "tuple", dict := dc, data := .seq items2 n2, slots := sl } ∧
      R (.ok (.ret Value.none)) { s with heap := s.heap.update l (Obj.mapSeq fun x => x ++ items2), toks := s.toks }) :=
  .of_wp fun prog w A R s h => by
    obtain ⟨hp, g, d, tk, os⟩ := s
    obtain ⟨hl, hb, h⟩ := h
    have f1 := idx_int
    have f2 := sub_tuple_tuple
    have f3 := sub_list_list
    have f4 := sub_tuple_list
    have f5 := sub_list_tuple
    have hz' : (items ++ items2).size ≤ sizeLine + 1 := by rw [Array.size_append]; exact hs2
    wp_walk using (wpAny_updateSeq hl rfl (hz := hs1) (_hz' := hz')), wpAny_loadPart' hl, wpAny_loadPart' hb
    exact ⟨_, rfl, h⟩
end PySem
namespace L2
open PySem PySem.Spec PyProof.Rows PySem.W
section
variable {X : Cx}
def rExtT (K : PySem.W.Frag) : V → List V → Hp → VK → Prop := fun x vs H Q => ∃ (l b : Addr) (xs zs : List V), x = .ref l ∧ vs = [.ref b] ∧ H l = some (.lst xs) ∧ SqT K H b zs ∧ xs.length + zs.length ≤ sizeLine ∧
  Q .non (upd H l (.lst (xs ++ zs)))
theorem mt_extendT : MtM X "list.extend" (rExtT X.K) := by
  intro pins s σ H x vs v us Q I rx rv h
  obtain ⟨l, b, xs, zs, rfl, rfl, hH, hB, hz, q⟩ := h
  cases rx
  obtain ⟨u, rfl, ru⟩ := rv.one
  cases ru
  obtain ⟨z, its, n, r, hl, e⟩ := I.lstM hH
  obtain ⟨its2, r2, ⟨ob, eb, hc, n2, hd⟩, hl2⟩ := I.tuple hB
  obtain ⟨cls, dc, data, sl⟩ := ob
  dsimp only at hc hd
  subst hc hd
  have h1 := r.length
  have h2 := r2.length
  have hsz : its.toArray.size + its2.toArray.size ≤ sizeLine := by rw [List.size_toArray, List.size_toArray]; omega
  have hlong : ¬ (!its.toArray.isEmpty && Builtin.List.listTooLong (its.toArray.size + its2.toArray.size)) = true := by
    rw [notLongL hsz, Bool.and_false]
    exact Bool.false_ne_true
  refine call_meets F.slot_list_extend ⟨_, e, rfl⟩ F.entry_list_extend (F.args_list_extend_2 _ _) (PySem.ext_tup hlong (by rw [List.size_toArray]; omega) (by omega)) ⟨e, eb, ?_⟩
  refine ⟨.non, _, I.lset (its' := its ++ its2) hH e (by simp) (r.append r2) ?_, rfl, q⟩
  rw [List.length_append]
  omega
end
end L2

set_option Elab.async false
set_option linter.all false
set_option maxRecDepth 100000
set_option maxHeartbeats 4000000
/-! set(xs), xs a tuple of ints, as a value -/
namespace L2
open PySem PySem.Spec PyProof.Rows
section
variable {P : Program} {w : World} {A : Around} {E : Value → Shared → Prop}
theorem sub_tup_set : isSubtype (.type "tuple") (.type "set") = pure false := by rw [isSubtype_type]; kernel_rfl
theorem sub_tup_frz : isSubtype (.type "tuple") (.type "frozenset") = pure false := by rw [isSubtype_type]; kernel_rfl
theorem init_overT {z : Shared} {D l : Addr} {items : Array Value} {ns : List Int} {R : Result → Shared → Prop} (hh : A.handled = none) (hD : z.heap.get? D = some (eS w)) (hl : z.heap.IsTuple l items) (hit : IntsAre items.toList ns) (hb : ns.length + 1 < scanBound) (hne : l ≠ D)
    (q : ∀ (h' : Heap) (tk c : Nat), SetR w h' D (fun j => decide (j ∈ ns)) c → c ≤ ns.length → (∀ b o, b ≠ D → z.heap.get? b = some o → h'.get? b = some o) → R (.ok (.ret .none)) { z with heap := h', toks := tk }) :
    codeAny (model P w) A (.call (.builtin "set.__init__") ⟨[.ref D, .ref l], []⟩) R z := by
  have hn : items.size = ns.length := by
    have e := IntsAre.length hit
    rw [Array.length_toList] at e
    exact e
  have hT : Shared.TypeIs z (.ref D) "set" := ⟨_, hD, rfl⟩
  have lD : D < z.heap.objs.size := Heap.lt_size hD
  obtain ⟨⟨oc, od, oa, os⟩, hol, hcl, nl, hdl⟩ := id hl
  have ll : l < z.heap.objs.size := Heap.lt_size hol
  dsimp only at hcl hdl
  subst hcl hdl
  have no1 := sub_tup_set
  have no2 := sub_tup_frz
  have no3 : (Value.type "tuple" == Value.type "dict") = false := by decide
  refine codeAny_call_builtin F.called_set.init.plain F.entry_set_init (check_set_init_1 hT ?_)
  unfold Builtin.«set.__init__» noKeywords Builtin.Frozenset.updateFrom
  generalize hPI : pyIter = PI
  wp_walk
  subst hPI
  refine wpAny_pyIter_tuple hl ?_
  refine wpAny_bind (wpAny_runValue ?_)
  have free3 : A.in1.in1.handled = none := by simp [hh]
  have apart : l ≠ z.heap.objs.size := Nat.ne_of_lt ll
  have offS : D ∉ [z.heap.objs.size, l] := fun m => by
    rcases List.mem_cons.mp m with y | y
    · exact absurd y (Nat.ne_of_lt lD)
    · exact hne (List.mem_singleton.mp y).symm
  have each : ∀ (i : Nat) (v : Value), items[i]? = some v → ∃ k t, ns[i]? = some k ∧ v = .int k t := fun i v e => by
    have hi : i < ns.length := hn ▸ (Array.getElem?_eq_some_iff.mp e).1
    obtain ⟨t, e2⟩ := IntsAre.int_at hit i v (by rw [Array.getElem?_toList]; exact e)
    exact ⟨ns[i], t, List.getElem?_eq_getElem hi, by rw [e2, List.getD_eq_getElem?_getD, List.getElem?_eq_getElem hi]; rfl⟩
  refine set_update_ints ((Walks.tuple free3 _ l apart items).toS) D offS ns hn hb each (items.size - 0) 0 _ (by omega) (Nat.zero_le _) ?_ ⟨0, Nat.le_refl 0, ?_⟩ ?_
  · exact ⟨⟨_, Heap.get?_push_size _ rfl, rfl, rfl⟩, hl.push _⟩
  · exact setR_new_at (Heap.get?_push_of_some _ hD)
  rintro ⟨h', gens', drawn', tk', os'⟩ c moved hc new
  obtain rfl : gens' = z.gens := moved.gens
  obtain rfl : drawn' = z.drawn := moved.drawn
  obtain rfl : os' = z.os := moved.os
  show wpAny _ _ _ _ _ _
  refine wpAny_pure ?_
  show wpAny _ _ (ret Value.none) _ _ _
  refine wpAny_pure (q h' tk' c new (by omega) fun b o hbD e => ?_)
  have lb : b < z.heap.objs.size := Heap.lt_size e
  refine moved.heap b o (fun m => ?_) (Heap.get?_push_of_some _ e)
  rcases List.mem_cons.mp m with y | y
  · exact hbD y
  · exact absurd (List.mem_singleton.mp y) (Nat.ne_of_lt lb)
theorem set_overT {z : Shared} {l : Addr} {items : Array Value} {ns : List Int} {Q : Value → Shared → Prop} (hh : A.handled = none) (hl : z.heap.IsTuple l items) (hit : IntsAre items.toList ns) (hb : ns.length + 1 < scanBound)
    (q : ∀ (h' : Heap) (tk c : Nat), SetR w h' z.heap.objs.size (fun j => decide (j ∈ ns)) c → c ≤ ns.length → (∀ b o, z.heap.get? b = some o → h'.get? b = some o) → Q (.ref z.heap.objs.size) { z with heap := h', toks := tk }) :
    wpAny (model P w) A (call (.type "set") [.ref l]) Q E z := by
  obtain ⟨c0, t0, mro0⟩ := F.called_set.mro
  have m1 := F.called_set.made
  have m2 := F.called_set.sub
  have m3 := F.called_set.notType
  have m4 := F.called_set.canCreate
  have m5 := F.typeCall_set_1 (.ref l)
  have ll : l < z.heap.objs.size := by
    obtain ⟨o, ho, _⟩ := id hl
    exact Heap.lt_size ho
  refine wpAny_call (codeAny_of_tree ?_)
  show wpAny _ _ (callAny (.type "set") _) _ _ _
  refine wpAny_pure ⟨Code.quiet_builtin _ (by decide +kernel), codeAny_builtin F.entry_type_call ?_⟩
  rw [Around.under_plain (weight_type_call_type "set" [.ref l] []) rfl]
  repeat any_goals first | assumption | wp_step
  have new1 : (z.heap.push (eS w)).get? z.heap.objs.size = some (eS w) := Heap.get?_push_size _ rfl
  refine codeAny_mono (code_set_led1 (.ref l) (E := E) (Q₁ := fun v y => v = .ref z.heap.objs.size ∧ y = { z with heap := z.heap.push (eS w) }) ⟨rfl, rfl⟩) fun r y hr => ?_
  cases r with
  | error e => exact hr
  | ok fl =>
    cases fl with
    | ret v =>
      obtain ⟨rfl, rfl⟩ := hr
      have hT : Shared.TypeIs { z with heap := z.heap.push (eS w) } (.ref z.heap.objs.size) "set" := ⟨_, new1, rfl⟩
      have i1 := F.called_set.init.lookup
      have i2 := F.called_set.init.bind (.ref z.heap.objs.size)
      repeat any_goals first | assumption | wp_step
      refine init_overT (A := A.in1) (z := { z with heap := z.heap.push (eS w) }) (D := z.heap.objs.size) (by simp [hh]) new1 (hl.push _) hit hb (Nat.ne_of_lt ll) fun h' tk c S hc k => ?_
      show wpAny _ _ (pure (some Value.none)) _ _ _
      repeat any_goals first | assumption | wp_step
      exact q h' tk c S hc fun b o e => k b o (Nat.ne_of_lt (Heap.lt_size e)) (Heap.get?_push_of_some _ e)
    | _ => exact hr.elim
end
section
variable {X : Cx}
/-- set(xs) -/
def rSetTI (K : PySem.W.Frag) (w : World) : List V → Hp → VK → Prop := fun xs H Q => ∃ (l : Addr) (ns : List Int), xs = [V.ref l] ∧ SqT K H l (ns.map V.int) ∧ ns.length ≤ 1000 ∧ ∀ p n, n ≤ ns.length → H p = none → Q (.ref p) (upd H p (SetO w p (fun j => decide (j ∈ ns)) n))
theorem cr_setTI (hc : X.calm = true) : CallR X (.type "set") (rSetTI X.K X.w) := by
  intro pins s σ H xs us Q I r h
  obtain ⟨l, ns, rfl, hl, h1, q⟩ := h
  obtain ⟨its, rv, pl, _⟩ := I.tuple hl
  rw [Vals.ref1 r]
  refine set_overT (I.ok.hd hc) pl (ns := ns) (by simpa using rv.ints) (by unfold scanBound; omega) fun h' tk c R hc k => ?_
  exact ⟨.ref _, upd H s.heap.objs.size (SetO X.w s.heap.objs.size (fun j => decide (j ∈ ns)) c), I.laid (t' := tk) k (Nat.le_refl _) (setO_new R), rfl, q _ c hc (I.hok.fresh (Nat.le_refl _))⟩
end
end L2

set_option Elab.async false
set_option linter.all false
set_option maxRecDepth 100000
set_option maxHeartbeats 4000000
/-! t > u, both tuples of ints -/
namespace L2
open PySem PySem.Spec PyProof.Rows
abbrev gtB (ns ms : List Int) : Bool := Ob.lexAt (fun j => decide (ns.getD j 0 = ms.getD j 0)) (fun j => decide (ms.getD j 0 < ns.getD j 0)) (decide (ms.length < ns.length)) 0 (min ns.length ms.length)
def rGtT (K : PySem.W.Frag) : R2 := fun x y H Q => ∃ (t1 t2 : Addr) (ns ms : List Int), (x = .ref t1 ∧ y = .ref t2) ∧ (SqT K H t1 (ns.map V.int) ∧ SqT K H t2 (ms.map V.int)) ∧ Q (.bl (gtB ns ms)) H
theorem op_gtT {X : Cx} (few : X.A.units < cLine) : OpR X (compareOp .Gt) (rGtT X.K) := by
  rintro pins s σ H x y v u Q I rx ry ⟨t1, t2, ns, ms, ⟨rfl, rfl⟩, ⟨h1, h2⟩, q⟩
  cases rx; cases ry
  obtain ⟨us, va, pa, _⟩ := I.tuple h1
  obtain ⟨ws, vb, pb, _⟩ := I.tuple h2
  have item : ∀ {zs : List Value} {ks : List Int}, IntsAre zs ks → ∀ j (h : j < zs.toArray.size), ∃ t, zs.toArray[j] = .int (ks.getD j 0) t := fun ii j h =>
    PyProof.Rows.IntsAre.int_at ii _ _ (by simp at h; simp [h])
  have size : ∀ {zs : List Value} {ks : List Int}, IntsAre zs ks → zs.toArray.size = ks.length := fun ii => by rw [List.size_toArray]; exact ii.length
  have beq : ∀ a b : Int, decide (a = b) = (a == b) := fun a b => by
    by_cases c : a = b
    · subst c; simp
    · rw [decide_eq_false c]; exact (beq_eq_false_iff_ne.mpr c).symm
  have main := Ob.RcOp.tuples_gt (A := X.A) (s := s) (e := fun j => decide (ns.getD j 0 = ms.getD j 0)) (r := fun j => decide (ms.getD j 0 < ns.getD j 0)) pa pb few
    (fun j i1 i2 => by
      obtain ⟨k1, g1⟩ := item va.ints j i1
      obtain ⟨k2, g2⟩ := item vb.ints j i2
      rw [g1, g2, beq]
      exact SeqAt.EqAt.int_int _ _ _ _)
    (fun j i1 i2 _ => by
      obtain ⟨k1, g1⟩ := item va.ints j i1
      obtain ⟨k2, g2⟩ := item vb.ints j i2
      rw [g1, g2]
      exact Ob.RcOp.gt_int _ _ _ _)
  rw [size va.ints, size vb.ints] at main
  exact main X.prog X.w X.xe (EP X pins σ Q) ⟨.bl _, H, I, rfl, q⟩
end L2

set_option Elab.async false
set_option linter.all false
set_option maxRecDepth 100000
set_option maxHeartbeats 4000000
/-! sorted(xs), xs a list of tuples of ints, the first of which has no item -/
namespace PySem.W
open PySem PySem.Calls PyProof.Rows PySem.SeqAt
section
variable {prog : Program} {w : World} {A : Around} {E : Value → Shared → Prop} {s : Shared}
theorem call_tuple_ltZ {Q : Value → Shared → Prop} {l b : Addr} {items items2 : Array Value} {e r : Nat → Bool} (hl : s.heap.IsTuple l items) (hb : s.heap.IsTuple b items2)
    (he : ∀ j (h1 : j < items.size) (h2 : j < items2.size), EqAt A.in1 s items[j] items2[j] (e j)) (hr : ∀ j (h1 : j < items.size) (h2 : j < items2.size), e j = false → RcLt A.in1 s items[j] items2[j] (r j))
    (h : Q (.bool (firstLt e r (decide (items.size < items2.size)) (List.range (min items.size items2.size)))) s) : wpAny (model prog w) A (call (.builtin "tuple.__lt__") [.ref l, .ref b]) Q E s := by
  obtain ⟨⟨cls, dd, data, sl⟩, ho, hc, n, hd⟩ := id hl
  obtain ⟨⟨cls2, dd2, data2, sl2⟩, ho2, hc2, n2, hd2⟩ := id hb
  simp only at hc hd hc2 hd2
  subst hc hd hc2 hd2
  exact call_meets F.slot_tuple_lt ⟨_, ho, rfl⟩ F.entry_tuple_lt (F.args_tuple_lt_2 _ _) (tuple_ltAt l b items items2 n n2 dd dd2 sl sl2 e r) ⟨ho, ho2, he, hr, h⟩
theorem oneLt_tupZ {xs ys : List PyData} {a b : Value} {as bs : List Addr} {Q : Bool → Shared → Prop} (ra : Reads s.heap a (.tuple xs) as) (rb : Reads s.heap b (.tuple ys) bs) (hal : alikeAll xs ys = true)
    (hu : A.units + min (PyData.tuple xs).depth (PyData.tuple ys).depth < cLine) (hq : Q (dataLt (.tuple xs) (.tuple ys)) s) : wpAny (model prog w) A (oneLt' true a b) Q E s := by
  cases ra with
  | @tuple l o vs n _ as₁ h1 h2 h3 h4 =>
    cases rb with
    | @tuple l' o' vs' n' _ bs₁ k1 k2 k3 k4 =>
      have n1 : vs.size = xs.length := by simpa using ReadsAll.length _ _ _ h4
      have n2 : vs'.size = ys.length := by simpa using ReadsAll.length _ _ _ k4
      rw [dataLt_tuple, ← firstLt_toks xs ys hal, ← n1, ← n2] at hq
      rw [oneLt'_eq]
      simp only [if_true]
      refine wpAny_bind (wpAny_cRoomFor (room_here hu) ?_)
      refine wpAny_bind (wpAny_callSpecialIfBound?_slot (T := "tuple") ⟨_, h1, h2⟩ F.slot_tuple_lt (call_tuple_ltZ (e := pairEq xs ys) (r := fun j => dataLt (xs.getD j .none) (ys.getD j .none)) ⟨_, h1, h2, _, h3⟩ ⟨_, k1, k2, _, k3⟩ (fun j j1 j2 => ?_) (fun j j1 j2 hj => ?_) ?_))
      · have := eqAt_alikeAll xs ys A.in1 s vs.toList vs'.toList _ _ h4 k4 hal (room_in hu) j (by simpa using j1) (by simpa using j2)
        simpa using this
      · have := rcLt_alikeAll xs ys A.in1 s vs.toList vs'.toList _ _ h4 k4 hal (room_in hu) j (by simpa using j1) (by simpa using j2) hj
        simpa using this
      · exact wpAny_truthy_bool hq
end
section
variable {M : Model} {A : Around} {E : Value → Shared → Prop} {s : Shared}
def TupAt (h : Heap) (v : Value) (xs : Array Value) : Prop := ∃ a o n, v = .ref a ∧ h.get? a = some o ∧ o.cls = .type "tuple" ∧ o.data = .seq xs n
theorem first_tupZ {v : Value} {xs : Array Value} {Q : Option Value → Shared → Prop} (t : TupAt s.heap v xs) (h : Q xs[0]? s) : wpAny M A (firstOfTuple' v) Q E s := by
  obtain ⟨a, o, n, rfl, ho, hc, hd⟩ := t
  rw [kas_first_eq]
  refine wpAny_bind (Looks.here (show Looks M s.heap (typeOf (.ref a)) o.cls from (Looks.ld ho).andThen .now) ?_)
  rw [hc, if_neg (by first | decide | simp)]
  exact wpAny_bind (listItems_at ho hd (wpAny_pure h))
theorem firsts_anyZ : ∀ (vs : List Value), (∀ v ∈ vs, ∃ xs, TupAt s.heap v xs) → ∃ rs : List (Option Value), ∀ {Q : List (Option Value) → Shared → Prop}, Q rs s → wpAny M A (vs.mapM firstOfTuple') Q E s
  | [], _ => ⟨[], fun h => by rw [List.mapM_nil]; exact wpAny_pure h⟩
  | v :: vs, t => by
    obtain ⟨xs, hx⟩ := t v (.head _)
    obtain ⟨rs, hr⟩ := firsts_anyZ vs fun v hv => t v (.tail _ hv)
    refine ⟨xs[0]? :: rs, fun {Q} h => ?_⟩
    rw [List.mapM_cons]
    exact wpAny_bind (first_tupZ hx (wpAny_bind (hr (Q := fun bs s' => wpAny M A (pure (xs[0]? :: bs)) Q E s') (wpAny_pure h))))
theorem kind_tupZ {v₁ : Value} {rest : List Value} {Q : SortKind → Shared → Prop} (h1 : TupAt s.heap v₁ #[]) (hT : ∀ v ∈ rest, ∃ xs, TupAt s.heap v xs) (h : Q oneType' s) : wpAny M A (keyKind' (v₁ :: rest).toArray) Q E s := by
  obtain ⟨rs, hr⟩ := firsts_anyZ (M := M) (A := A) (E := E) rest hT
  rw [keyKind'_eq, List.mapM_toArray, map_eq_pure_bind]
  refine wpAny_bind (wpAny_bind ?_)
  rw [List.mapM_cons]
  refine wpAny_bind (first_tupZ h1 (wpAny_bind (hr ?_)))
  refine wpAny_pure (wpAny_pure ?_)
  rw [if_neg (by simp), if_neg (by simp)]
  rw [oneTypeOnly'_eq, List.mapM_toArray, map_eq_pure_bind]
  have hty : ∀ v ∈ v₁ :: rest, ∀ (Q' : Value → Shared → Prop), Q' (.type "tuple") s → wpAny M A (typeOf v) Q' E s := fun v hv Q' hq => by
    have ht : ∃ xs, TupAt s.heap v xs := by
      rcases List.mem_cons.mp hv with rfl | hv
      · exact ⟨_, h1⟩
      · exact hT v hv
    obtain ⟨xs, a, o, n, rfl, ho, hc, hd⟩ := ht
    refine Looks.here (show Looks M s.heap (typeOf (.ref a)) o.cls from (Looks.ld ho).andThen .now) ?_
    rw [hc]
    exact hq
  refine wpAny_bind (wpAny_bind (wpAny_bind (kas_mapM (r := .type "tuple") _ hty (wpAny_pure ?_))))
  have hall : ((List.map (fun _ => Value.type "tuple") (v₁ :: rest)).toArray.all fun x => x == Value.type "tuple") = true := by
    simp only [List.all_toArray, List.all_map, List.all_eq_true]
    intro _ _
    rfl
  have h0 : (List.map (fun _ => Value.type "tuple") (v₁ :: rest)).toArray[0]? = some (Value.type "tuple") := by simp
  rw [h0]
  simp only [hall, if_true]
  exact wpAny_pure (wpAny_pure h)
end
section
variable {prog : Program} {w : World} {A : Around} {E : Value → Shared → Prop} {s : Shared}
theorem reads_tupZ {v : Value} {r : List PyData} {as : List Addr} (h : Reads s.heap v (.tuple r) as) : ∃ xs, TupAt s.heap v xs := by
  cases h with
  | @tuple l o vs n _ as₁ h1 h2 h3 h4 => exact ⟨_, l, o, n, rfl, h1, h2, h3⟩
theorem reads_tup0Z {v : Value} {as : List Addr} (h : Reads s.heap v (.tuple []) as) : TupAt s.heap v #[] := by
  cases h with
  | @tuple l o vs n _ as₁ h1 h2 h3 h4 =>
    have n1 : vs.size = 0 := by simpa using ReadsAll.length _ _ _ h4
    obtain rfl : vs = #[] := Array.eq_empty_of_size_eq_zero n1
    exact ⟨l, o, n, rfl, h1, h2, h3⟩
theorem SortsAt.tupZ {vs : List Value} {ds : List PyData} (e : EachIs (fun v d => ∃ as, Reads s.heap v d as) vs (.tuple [] :: ds)) (hal : AllAlike (.tuple [] :: ds)) (ht : ∀ d, d ∈ ds → ∃ r, d = .tuple r) (hu : ∀ d, d ∈ PyData.tuple [] :: ds → A.units + d.depth < cLine) :
    SortsAt prog w A s (dataKind s.heap (.tuple [] :: ds)) vs := by
  have ht2 : ∀ d, d ∈ PyData.tuple [] :: ds → ∃ r, d = .tuple r := fun d hd => by
    rcases List.mem_cons.mp hd with rfl | hd
    · exact ⟨_, rfl⟩
    · exact ht d hd
  refine ⟨fun v hv => ?_, oneType', ?_, fun h2 E Q hq => ?_⟩
  · obtain ⟨d, hd, as, r⟩ := e.left v hv
    exact ⟨_, dataKind_some hal hd r⟩
  · intro E x y a b Q ha hb hq
    obtain ⟨d, as, hd, ra, rfl⟩ := dataKind_inv ha
    obtain ⟨d', as', hd', rb, rfl⟩ := dataKind_inv hb
    have hdd := hal d hd d' hd'
    have hroom : A.units + min d.depth d'.depth < cLine := Nat.lt_of_le_of_lt (Nat.add_le_add_left (Nat.min_le_left _ _) _) (hu d hd)
    obtain ⟨r1, rfl⟩ := ht2 d hd
    obtain ⟨r2, rfl⟩ := ht2 d' hd'
    rw [keyLt'_oneType]
    exact oneLt_tupZ ra rb (by simpa [alike] using hdd) hroom hq
  · cases e with
    | @cons v₁ _ vs _ r1 r2 =>
      obtain ⟨as, r1⟩ := r1
      refine kind_tupZ (reads_tup0Z r1) (fun v hv => ?_) hq
      obtain ⟨d, hd, as, r⟩ := r2.left v hv
      obtain ⟨r', rfl⟩ := ht d hd
      exact reads_tupZ r
end
end PySem.W
namespace PySem.W
open PySem PySem.Calls PyProof.Rows PySem.SeqAt
section
variable {prog : Program} {w : World} {A : Around} {E : Value → Shared → Prop} {s : Shared} {β : Type} {R : Value → β → Prop} {enc : β → PyData} {b0 : β} {bs : List β} {vs : List Value}
theorem sorted_tupZ {l : Addr} {Q : Value → Shared → Prop} (h0 : enc b0 = .tuple []) (ht : ∀ b, b ∈ bs → ∃ r, enc b = .tuple r) (hl : s.heap.IsList l vs.toArray) (e : EachIs R vs (b0 :: bs)) (er : EachIs (fun v b => ∃ as, Reads s.heap v (enc b) as) vs (b0 :: bs)) (hal : AllAlike ((b0 :: bs).map enc)) (hL : (b0 :: bs).length ≤ sizeLine)
    (hu : ∀ b, b ∈ b0 :: bs → A.units + 2 + (enc b).depth < cLine) (h : ∀ out, out.length = (b0 :: bs).length → EachIs R out ((b0 :: bs).mergeSort (dataLe false enc)) → Q (.ref (s.heap.objs.size + 1)) { s with heap := sortedAll s.heap vs (List.toArray out) }) :
    wpAny (model prog w) A (call (.builtin "sorted") [.ref l]) Q E s := by
  have er' : EachIs (fun v b => ∃ as, Reads (sortingHeap (copyHeap s.heap vs) (s.heap.objs.size + 1) vs) v (enc b) as) vs (b0 :: bs) := er.mono fun _ _ ⟨as, r⟩ => ⟨as, PyProof.Rows.Reads.keeps (fun _ _ => sorting_copy_old) r⟩
  have em := each_map (R := fun v d => ∃ as, Reads (sortingHeap (copyHeap s.heap vs) (s.heap.objs.size + 1) vs) v d as) enc er'
  have bm := bound_map (A := A.in1.in1) (enc := enc) (bs := b0 :: bs) hu
  have hal2 := hal
  rw [List.map_cons, h0] at em bm hal2
  refine sorted_vals (κ := dataKind (sortingHeap (copyHeap s.heap vs) (s.heap.objs.size + 1) vs) ((b0 :: bs).map enc)) hl ?_ (by rw [e.length]; exact hL) (h _ (by rw [sortVals_length false rfl]; exact e.length) (sortVals_data false e er' hal))
  rw [List.map_cons, h0]
  refine SortsAt.tupZ (s := { s with heap := sortingHeap (copyHeap s.heap vs) (s.heap.objs.size + 1) vs }) em hal2 (fun d hd => ?_) bm
  obtain ⟨b, hb, rfl⟩ := List.mem_map.mp hd
  exact ht b hb
end
end PySem.W
namespace L2
open PySem PySem.Spec PyProof.Rows PySem.W
section
variable {X : Cx} {pins : List (Addr × Obj)} {σ : St} {H : Hp} {s : Shared}
/-- sorted(xs): the items ascending as tuples are -/
def rSortT0 (K : PySem.W.Frag) : List V → Hp → VK → Prop := fun vs H Q => ∃ (a : Addr) (xs : List V) (bs : List (List Int)), vs = [V.ref a] ∧ SqL K H a xs ∧ Paired (TupI K H) xs ([] :: bs) ∧
  ∀ (ys : List V) (p : Addr), Paired (TupI K H) ys (([] :: bs).mergeSort fun p q => decide (p ≤ q)) → H p = none → Q (.ref p) (upd H p (.lst ys))
theorem cr_sortT0 (hu : X.A.units + 65 < cLine) : CallR X (.builtin "sorted") (rSortT0 X.K) := by
  intro pins s σ H vs us Q I r h
  obtain ⟨a, xs, bs, rfl, hs, hp, q⟩ := h
  obtain ⟨its, rv, hl, hz⟩ := I.list hs
  rw [Vals.ref1 r]
  have e0 : EachIs (TupV X.K H) its ([] :: bs) := tupV_of hp rv
  have hlen : ([] :: bs).length = xs.length := (Paired.length hp).symm
  refine sorted_tupZ (A := X.A) (R := TupV X.K H) (enc := tupE) rfl (fun b _ => ⟨_, rfl⟩) hl.isList e0 (e0.mono fun u ns h => tupV_reads I h) (AllAlike.of fun b b' => by simp [alike, alike_ints]) (by rw [hlen]; exact hz) (fun b _ => ?_) fun out ho eo => ?_
  · have : (tupE b).depth ≤ 1 := by simp [PyData.depth, depth_ints]
    omega
  · rw [tupE_le] at eo
    obtain ⟨e1, e2⟩ := tupV_to eo
    obtain ⟨ep, he'⟩ := PyProof.Rows.sortedAll_at s.heap its out.toArray
    have hz2 : (out.map bkV).length ≤ sizeLine := by
      rw [List.length_map, ho, hlen]
      exact hz
    exact ⟨.ref _, upd H (s.heap.objs.size + 1) (.lst (out.map bkV)), I.laid (t' := s.toks) (fun _ _ => PyProof.Rows.sortedAll_old) (Nat.le_succ _) ⟨hz2, out, ep, bkV_vals e2, he'⟩, rfl, q _ _ e1 (I.hok.fresh (Nat.le_succ _))⟩
end
end L2

set_option Elab.async false
set_option linter.all false
set_option maxRecDepth 100000
set_option maxHeartbeats 4000000
/-! o.m(e, .., k = v, ..); an expression read in one of two ways -/
namespace L2
open PySem PySem.Spec PyProof.Rows PySem.W
/-- a method with keywords -/
def tMethN (C : Addr) (m : Str) (n j : Nat) (sp : Sp) (gV : List V → List V → List V) (E : XK) (ta : TE) (t tk : TA) : TE := fun σ H Q => ta σ H fun x H1 => ∃ a dx fs, x = .ref a ∧ H1 a = some (.ins C dx fs) ∧ fs.lookup m = none ∧
  t σ H1 fun vs H2 => tk σ H2 fun zs H3 => vs.length = n ∧ zs.length = j ∧ sp (gV (x :: vs) zs) H3 Q E
section
variable {X : Cx} {CX : CXT} {k n : Nat} {f C : Addr} {fd : FuncData} {ps ks : List Str} {sp : Sp} {E : XK} {m : Str} {pos apos : Pos} {e o : Expr} {es : List Expr} {kws : List Keyword} {ta : TE} {t tk : TA} {g : List Value → List Value → List Value} {gV : List V → List V → List V}
theorem pe_methN {pl : Sem Bool} (he : PE X o ta) (c : Cls X.K C) (hm : Meth X.K C m f) (F : FnOk X.prog X.w X.K X.mg X.base CX k f fd ps sp) (hr : Room k X.A) (hb : KBn X.K fd ps (n + 1) ks g gV) (hx : Passes CX X E) (ha : PA X (e :: es) t) (hkw : PK X kws tk)
    (hall : (backToKw pos (keywordEach kws X.env)).all (·.1.isSome) = true := by rfl) (hks : (backToKw pos (keywordEach kws X.env)).filterMap (·.1) = ks := by rfl)
    (hst : starEach (e :: es) X.env = (false, eval e X.env) :: starEach es X.env := by rfl) (hpl : ((backTo pos (starEach (e :: es) X.env)).any (·.1) || (backToKw pos (keywordEach kws X.env)).any (·.1.isNone)) = false := by rfl)
    (ht : eval (.Call (.Attribute o m apos) (e :: es) kws pos) X.env = (do
      let ov ← eval o X.env
      standAt apos.atName
      let (f, first) ← holding [ov] (getMethod ov m pl)
      callWith pos f first (backTo pos (starEach (e :: es) X.env)) (backToKw pos (keywordEach kws X.env))) := by rfl) :
    PE X (.Call (.Attribute o m apos) (e :: es) kws pos) (tMethN C m n ks.length sp gV E ta t tk) := by
  refine ⟨fun pins s σ H Q I h => ?_⟩
  refine PySem.W.methodCall_KW (pl := pl) (thn (he.run pins s σ H _ I h) fun u s1 ⟨x, H1, I1, rx, a, dx, fs, ex, ea, l, q⟩ => ?_) ht
  subst ex
  obtain rfl : u = Value.ref a := rx
  refine getmeth_ok I1 ea c hm l ?_
  refine PySem.W.callWith_KW (first := [.ref a]) (h₀ := X.base) I.ok.mod.kin hm.kp hall (thn (ha.run pos pins s1 σ H1 _ I1 q) fun us s2 ⟨vs, H2, I2, r, q2⟩ => ?_) hpl hst
  refine thn (hkw.run pos pins s2 σ H2 _ I2 q2) fun ws s3 ⟨zs, H3, I3, rz, l1, l2, q3⟩ => ⟨I3.kIn, ?_⟩
  rw [hks]
  exact run_fnN (us := .ref a :: us) (vs := .ref a :: vs) F hr hb hx I3 (.cons rfl r) rz (by rw [List.length_cons, l1]) l2 q3
/-- an expression that may be read in two ways -/
theorem pe_two {a : Expr} {t1 t2 : TE} (h1 : PE X a t1) (h2 : PE X a t2) : PE X a (fun σ H Q => t1 σ H Q ∨ t2 σ H Q) :=
  ⟨fun pins s σ H Q I h => h.elim (h1.run pins s σ H Q I) (h2.run pins s σ H Q I)⟩
end
end L2

set_option Elab.async false
set_option linter.all false
set_option maxRecDepth 100000
set_option maxHeartbeats 4000000
/-! zip over two tuples, as a walk; != of own objects of two classes -/
namespace L2
open PySem PySem.Spec PyProof.Rows
theorem walk_zipT {K : PySem.W.Frag} {a b : Addr} {xs ys : List V} {n : Nat} (hn : n = min xs.length ys.length) : Walk (RZ.ItzT K a b) n (fun H => SqT K H a xs ∧ SqT K H b ys) (YPair (fun i => xs[i]?) (fun i => ys[i]?)) := by
  subst hn
  refine ⟨fun i _ hi q => ?_, fun _ q => ⟨xs, ys, q.1, q.2, by omega⟩, fun i H v H' _ q y => ?_⟩
  · have h1 : i < xs.length := by omega
    have h2 : i < ys.length := by omega
    exact ⟨xs, ys, xs[i], ys[i], q.1, q.2, by simp [h1], by simp [h2]⟩
  · obtain ⟨T, x, z, h1, h2, h3, h4, h5⟩ := y
    exact ⟨T, x, z, h1, h2, h3, h4 xs q.1, h5 ys q.2⟩
end L2
namespace Tw
open PySem PySem.Spec PyProof.Rows L2
open PySem.W (InstAt looks_findIn looks_subIn ifBound_K cmp_K)
section
variable {X : Cx} {CX : CXT} {k : Nat} {f C D : Addr} {fd : FuncData} {ps : List Str} {sp : Sp} {E : XK}
/-- != where the other one is an object of another class -/
def rNeD (C D : Addr) (sp : Sp) (E : XK) : R2 := fun x y H Q =>
  ∃ a dx fs b dy gs, x = .ref a ∧ H a = some (.ins C dx fs) ∧ y = .ref b ∧ H b = some (.ins D dy gs) ∧ sp [.ref a, y] H (fun v H' => ∃ r, v = .bl r ∧ Q (.bl (!r)) H') E
theorem op_ne_two (c : EqC X.K C f) (hd : PySem.W.notFirst X.K C (.ref D) = true) (F : FnOk X.prog X.w X.K X.mg X.base CX k f fd ps sp) (hr : Room (k + 1) X.A) (hb : Binds X.K fd ps []) (hx : Passes CX X E) : OpR X (compareOp .NotEq) (rNeD C D sp E) := by
  intro pins s σ H x y v u Q I rx ry ⟨a, dx, fs, b, dy, gs, ex, ha, ey, hb2, q⟩
  subst ex
  subst ey
  obtain rfl : v = Value.ref a := rx
  obtain rfl : u = Value.ref b := ry
  obtain ⟨mA, O, rr, _, _, _⟩ := ins_get I.hok ha
  obtain ⟨od, J, hl⟩ := O.look
  obtain ⟨mB, OB, rrB, _, _, _⟩ := ins_get I.hok hb2
  obtain ⟨odB, JB, hlB⟩ := OB.look
  obtain ⟨m0, hF⟩ := I.fr
  show wpAny _ _ (richCompare .NotEq (.ref a) (.ref b)) _ _ _
  refine ne_K (Room.units0 hr.in1) hr.units0 hF I.ok.mod.kin J JB.type hd c (thn (run_sub F (Sub.in1 ⟨hr, rfl⟩) hb hx I (.cons (relR a) (.cons (relR b) .nil)) q) fun r s' ⟨z, H', I', rz, b2, ez, q'⟩ => ?_)
  subst ez
  exact ⟨b2, rz, _, H', I', relB (!b2), q'⟩
end
end Tw

set_option Elab.async false
set_option linter.all false
set_option maxRecDepth 100000
set_option maxHeartbeats 2000000
/-! own rules: xs.count(k), t.count(k) (whole numbers); sum(d.values()) -/
namespace L2
open PySem PySem.Spec PyProof.Rows L2
theorem plain_ints : ∀ ns : List Int, PyData.plainAll (ns.map PyData.int) = true
  | [] => rfl
  | n :: ns => by
    simp only [List.map_cons, PyData.plainAll, plain_ints ns]
    rfl
theorem count_ints (k : Int) : ∀ ns : List Int, (ns.map PyData.int).countP (fun y => PyData.eqv y (.int k)) = ns.count k
  | [] => rfl
  | n :: ns => by
    rw [List.map_cons, List.countP_cons, count_ints k ns, List.count_cons]
    have e : PyData.eqv (.int n) (.int k) = (n == k) := rfl
    rw [e]
theorem dpAll_ints (K : PySem.W.Frag) (H : Hp) : ∀ ns : List Int, DpAll K H (ns.map V.int) (ns.map PyData.int)
  | [] => .nil
  | n :: ns => .cons (.int n) (dpAll_ints K H ns)
section
variable {X : Cx}
def rCountL (K : PySem.W.Frag) : V → List V → Hp → VK → Prop := fun x vs H Q => ∃ (a : Addr) (ns : List Int) (k : Int), x = .ref a ∧ vs = [.int k] ∧ SqL K H a (ns.map V.int) ∧ Q (.int (ns.count k : Nat)) H
def rCountT (K : PySem.W.Frag) : V → List V → Hp → VK → Prop := fun x vs H Q => ∃ (a : Addr) (ns : List Int) (k : Int), x = .ref a ∧ vs = [.int k] ∧ SqT K H a (ns.map V.int) ∧ Q (.int (ns.count k : Nat)) H
theorem mt_countL (hu : X.A.units + 65 < cLine) : MtR X "list.count" (rCountL X.K) := by
  intro pins s σ H x xs v us Q I rx rxs h
  obtain ⟨a, ns, k, rfl, rfl, hl, q⟩ := h
  cases rx
  cases rxs with
  | cons ry rt =>
    rename_i uy ut
    cases rt
    obtain ⟨its, rv, pl, hlen⟩ := I.list hl
    obtain ⟨as, h4⟩ := Dp.readsAll I (ns.map PyData.int) _ its (dpAll_ints _ _ ns) rv
    obtain ⟨bs, r1⟩ := Dp.reads I (.int k) _ uy (.int k) ry
    refine PySem.SeqAt.count_list_data (xs := ns.map PyData.int) (d := .int k) pl.isList h4 r1 (plain_ints ns) rfl (Nat.lt_of_le_of_lt (Nat.add_le_add_left (Nat.min_le_right _ _) _) (by simp only [PyData.depth]; omega)) ?_
    rw [count_ints]
    exact ⟨.int _, H, I.tok _, ⟨_, rfl⟩, q⟩
theorem mt_countT (hu : X.A.units + 65 < cLine) : MtR X "tuple.count" (rCountT X.K) := by
  intro pins s σ H x xs v us Q I rx rxs h
  obtain ⟨a, ns, k, rfl, rfl, hl, q⟩ := h
  cases rx
  cases rxs with
  | cons ry rt =>
    rename_i uy ut
    cases rt
    obtain ⟨its, rv, pl, hlen⟩ := I.tuple hl
    obtain ⟨as, h4⟩ := Dp.readsAll I (ns.map PyData.int) _ its (dpAll_ints _ _ ns) rv
    obtain ⟨bs, r1⟩ := Dp.reads I (.int k) _ uy (.int k) ry
    refine PySem.SeqAt.count_tuple_data (xs := ns.map PyData.int) (d := .int k) pl h4 r1 (plain_ints ns) rfl (Nat.lt_of_le_of_lt (Nat.add_le_add_left (Nat.min_le_right _ _) _) (by simp only [PyData.depth]; omega)) ?_
    rw [count_ints]
    exact ⟨.int _, H, I.tok _, ⟨_, rfl⟩, q⟩
theorem preSum_list : ∀ (is : List Int) (n : Nat), preSum (fun i => is.getD i 0) n = (is.take n).sum := by
  intro is n
  induction n with
  | zero => rfl
  | succ n ih =>
    rw [preSum, ih]
    by_cases h : n < is.length
    · rw [← List.take_append_getElem h, List.sum_append, List.getD_eq_getElem?_getD, List.getElem?_eq_getElem h]
      simp
    · rw [List.take_of_length_le (by omega), List.take_of_length_le (by omega), List.getD_eq_getElem?_getD, List.getElem?_eq_none (by omega)]
      simp
/-- sum(o.values()), a dict with int values -/
def tSumVals (td : TE) : TE := fun σ H Q => td σ H fun x H1 => ∃ (a : Addr) (kvs : List (Key × V)) (is : List Int), x = V.ref a ∧ H1 a = some (.dK kvs) ∧ kvs.map (·.2) = is.map V.int ∧ Q (.int is.sum) H1
variable {o : Expr} {p pos apos mpos : Pos} {td : TE}
theorem pe_sumVals (hc : X.calm = true) (hg : Gl X "sum") (hm : X.mg "sum" = none) (hd : PE X o td) (hbase : attributeBase o "values" X.env (eval o X.env) = eval o X.env := by rfl) (hline : (apos.endLine == mpos.line) = true := by rfl)
    (hse : starEach [Expr.Call (.Attribute o "values" apos) [] [] mpos] X.env = [(false, eval (Expr.Call (.Attribute o "values" apos) [] [] mpos) X.env)] := by rfl) :
    PE X (.Call (.Name "sum" p) [.Call (.Attribute o "values" apos) [] [] mpos] [] pos) (tSumVals td) := by
  refine ⟨fun pins s σ H Q I h => ?_⟩
  refine wpAny_Call_Name_kw (ld_blt I hg hm (u := .builtin "sum") (by first | rfl | decide +kernel) ?_ (by first | decide +kernel | decide) (by first | decide +kernel | decide))
  rw [hse]
  refine PySem.callWith_builtin1 (wpAny_Call_method0_late hbase hline (thn (hd.run pins s σ H _ I h) fun v s1 ⟨x, H1, I1, r1, a, kvs, is, ex, ha, hv, q⟩ => ?_))
  subst ex
  obtain rfl : v = Value.ref a := r1
  obtain ⟨_, hsys, vs, rel, dof⟩ := dk_of I1.hok ha
  obtain ⟨ep, dat⟩ := dof.dictAt
  have dat' := dat
  obtain ⟨ob, es, ho, ex, hdat, hko, hpr, hnd⟩ := dat'
  refine ⟨"dict", "dict.values", F.plainAttrs_dict, F.slot_dict_values, F.type_dict_values, ⟨ob, ho, ex.1⟩, fun b e => ?_, Calls.callWith_builtin rfl (PySem.evalArgs_none ?_)⟩
  · cases e
    exact ⟨ob, ho, ex.2.1⟩
  refine call_meetsIn F.slot_dict_values ⟨ob, ho, ex.1⟩ F.entry_dict_values (F.args_dict_values_1 _) (meets_dict_values (mixKind X.prog X.w) a hsys) ⟨⟨vs, dof⟩, ?_⟩
  have k1 : ∀ b u, s1.heap.get? b = some u → (s1.heap.push { cls := .type "dict_values", data := .fields #[.ref a] }).get? b = some u := fun b u e => Heap.get?_push_of_some _ e
  have dat1 : (s1.heap.push { cls := .type "dict_values", data := .fields #[.ref a] }).DictAt (mixKind X.prog X.w) a vs ep := dat.keep k1
  have hlv : vs.length = is.length := by
    have e1 := congrArg List.length hv
    rw [List.length_map, List.length_map] at e1
    rw [← e1]
    exact (KV.length rel).symm
  have hval : ∀ (i : Nat) (v : Value), (∃ k, vs[i]? = some (k, v)) → ∃ t, v = Value.int (is.getD i 0) t := fun i v ⟨k, hk⟩ => by
    obtain ⟨x, h1, h2⟩ := KV.at' rel hk
    have e1 : (kvs.map (·.2))[i]? = some x := by rw [List.getElem?_map, h1] <;> rfl
    rw [hv, List.getElem?_map] at e1
    obtain ⟨j, hj, e2⟩ := Option.map_eq_some_iff.mp e1
    subst e2
    obtain ⟨t, e3⟩ := h2
    refine ⟨t, ?_⟩
    rw [e3, List.getD_eq_getElem?_getD, hj] <;> rfl
  refine call_sum_walkG (wpAny_pyIter_values (v := s1.heap.objs.size) (d := a) ⟨_, Heap.get?_push_size _ rfl, rfl, rfl⟩ dat1 ?_)
  have hlt : a < s1.heap.objs.size := Heap.lt_size ho
  have hsz : (s1.heap.push { cls := .type "dict_values", data := .fields #[.ref a] }).objs.size = s1.heap.objs.size + 1 := Heap.size_push _ _
  refine ⟨_, _, _, _, _, _, fun i => is.getD i 0, rfl, Walks.dictValues (knd := mixKind X.prog X.w) (A := X.A.in1) (I.ok.hd hc) (s1.heap.push { cls := .type "dict_values", data := .fields #[.ref a] }).objs.size a (by rw [hsz]; exact Nat.ne_of_lt (Nat.lt_succ_of_lt hlt)) vs ep,
    ⟨⟨_, Heap.get?_push_size _ rfl, rfl, rfl⟩, dat1.keep fun b u e => Heap.get?_push_of_some _ e⟩, fun b hb => ?_, hval, fun h' tk t' hk => ?_⟩
  · show b < ((s1.heap.push _).push _).objs.size
    rw [Heap.size_push, Heap.size_push]
    rw [hsz] at hb
    rcases List.mem_cons.mp hb with e | hb
    · rw [e]
      exact Nat.lt_succ_self _
    · have e : b = a := List.mem_singleton.mp hb
      rw [e]
      exact Nat.lt_succ_of_lt (Nat.lt_succ_of_lt hlt)
  · rw [preSum_list, hlv, List.take_length]
    refine ⟨.int _, H1, I1.kept (t' := tk) fun b u e => hk b u (fun hmem => ?_) (Heap.get?_push_of_some _ (k1 b u e)), ⟨t', rfl⟩, q⟩
    have e1 : b = (s1.heap.push { cls := .type "dict_values", data := .fields #[.ref a] }).objs.size := List.mem_singleton.mp hmem
    have e2 := Heap.lt_size e
    rw [hsz] at e1
    rw [e1] at e2
    exact absurd e2 (Nat.not_lt.mpr (Nat.le_succ _))
end
/-- a dict by a comprehension, over any walk -/
theorem dc_it {J : It} {n : Nat} {G : Hp → Prop} {Y : Nat → Hp → V → Hp → Prop} (w : Walk J n G Y) {g : TG} {tt : TT} {tk tv : TE} {vs : List Nat} {σ : St} {H1 : Hp} {D : Addr} {Qd : Hp → Prop} (Pv : Nat → Hp → Prop) (h0 : Pv 0 (upd H1 D (.dK []))) (hG : ∀ i H, i ≤ n → Pv i H → G H)
    (hs : ∀ i x H H', i < n → Pv i H → Y i H x H' → g x (wipe σ vs) H' fun σ2 H2 => wipe σ2 vs = wipe σ vs ∧ tt σ2 H2 fun b H3 =>
      if b = true then tk σ2 H3 fun y H4 => tv σ2 H4 fun z H5 => ∃ kvs k, y = kV k ∧ H5 D = some (.dK kvs) ∧ kvs.length < sizeLine ∧ Pv (i + 1) (upd H5 D (.dK (putK kvs k z))) else Pv (i + 1) H3) (hd : ∀ H, Pv n H → Qd H) :
    ∃ W : Nat → Nat → Hp → Prop, (∃ m, W 0 m (upd H1 D (.dK []))) ∧ ∀ i m H, W i m H →
      (J.stop i H ∧ Qd H) ∨ (J.go i H ∧ ∃ Nx : Hp → Prop, (∀ H', Nx H' → ∃ m', m' < m ∧ W (i + 1) m' H') ∧ ∀ x H', J.yld i H x H' → g x (wipe σ vs) H' fun σ2 H2 => wipe σ2 vs = wipe σ vs ∧ tt σ2 H2 fun b H3 =>
        if b = true then tk σ2 H3 fun y H4 => tv σ2 H4 fun z H5 => ∃ kvs k, y = kV k ∧ H5 D = some (.dK kvs) ∧ kvs.length < sizeLine ∧ Nx (upd H5 D (.dK (putK kvs k z))) else Nx H3) := by
  refine ⟨fun i m H => m = n - i ∧ i ≤ n ∧ Pv i H, ⟨n, by simp, Nat.zero_le _, h0⟩, ?_⟩
  rintro i m H ⟨rfl, hi, p⟩
  have q := hG i H hi p
  by_cases hlt : i < n
  · refine .inr ⟨w.goes i H hlt q, Pv (i + 1), fun H' p' => ⟨n - (i + 1), by omega, rfl, hlt, p'⟩, fun x H' y => hs i x H H' hlt p (w.yields i H x H' hlt q y)⟩
  · have e : i = n := by omega
    subst e
    exact .inl ⟨w.stops H q, hd H p⟩
/-- what stays while a thing is locked stays behind -/
theorem same_lock {H H' : Hp} {d : Addr} {u v : HO} (h : H d = some u) (s : Same (upd H d v) H') : Same H (upd H' d u) := fun b o e => by
  by_cases hb : b = d
  · subst hb
    rw [upd_same, ← h, e]
  · rw [upd_ne hb]
    exact s b o (by rw [upd_ne hb]; exact e)
theorem ite_b {b c : Bool} {A B : Prop} (h : b = c) (k : if c = true then A else B) : if b = true then A else B := h ▸ k
/-- set(xs), xs a list or a tuple of whole numbers -/
def rSetSq (K : PySem.W.Frag) (w : World) : List V → Hp → VK → Prop := fun xs H Q => ∃ (l : Addr) (ns : List Int), xs = [V.ref l] ∧ (SqL K H l (ns.map V.int) ∨ SqT K H l (ns.map V.int)) ∧ ns.length ≤ 1000 ∧ ∀ p n, n ≤ ns.length → H p = none → Q (.ref p) (upd H p (SetO w p (fun j => decide (j ∈ ns)) n))
theorem cr_setSq {X : Cx} (hc : X.calm = true) : CallR X (.type "set") (rSetSq X.K X.w) := by
  intro pins s σ H vs us Q I rv ⟨l, ns, e, h, hl, q⟩
  rcases h with h | h
  · exact cr_setLI hc pins s σ H vs us Q I rv ⟨l, ns, e, h, hl, q⟩
  · exact cr_setTI hc pins s σ H vs us Q I rv ⟨l, ns, e, h, hl, q⟩
end L2

set_option Elab.async false
set_option linter.all false
set_option maxRecDepth 100000
set_option maxHeartbeats 2000000
/-! own rules: tuples of which it is known that they have no dict of their own: their methods -/
namespace L2
open PySem PySem.Spec PyProof.Rows L2
/-- a tuple that was made by tuple(..), with the object that it is -/
def TupF (H : Hp) (a : Addr) (xs : List V) : Prop := ∃ o : Obj, H a = some (.frz o (.tup xs)) ∧ o.dict = none
theorem TupF.same {H H' : Hp} {a : Addr} {xs : List V} (h : TupF H a xs) (s : Same H H') : TupF H' a xs := let ⟨o, e, d⟩ := h; ⟨o, s _ _ e, d⟩
theorem TupF.sq {K : PySem.W.Frag} {H : Hp} {a : Addr} {xs : List V} (h : TupF H a xs) : SqT K H a xs := let ⟨o, e, _⟩ := h; .inl (.inr ⟨o, e⟩)
section
variable {X : Cx}
/-- tuple(xs) of a list; of such a tuple itself -/
def rTupF (K : PySem.W.Frag) : List V → Hp → VK → Prop := fun xs H Q => ∃ p ys, xs = [V.ref p] ∧ ((SqL K H p ys ∧ ∀ l o, H l = none → o.dict = none → Q (.ref l) (upd H l (.frz o (.tup ys)))) ∨ (SqT K H p ys ∧ Q (.ref p) H))
theorem call_tupF : CallR X (.type "tuple") (rTupF X.K) := by
  intro pins s σ H xs us Q I r h
  obtain ⟨p, ys, rfl, h⟩ := h
  rcases h with ⟨hq, q⟩ | ⟨hq, q⟩
  · obtain ⟨u, rfl, rx⟩ := vals1 r
    cases rx
    obtain ⟨its, r', pl, hz⟩ := I.list hq
    have hlen := r'.length
    refine call_tuple_list pl.isList (fun h' kp => ?_) (by simp only [List.size_toArray] <;> omega)
    have I1 : Inv X pins σ H { s with heap := h' } := I.kept (t' := s.toks) kp
    have I2 : Inv X pins σ (upd H h'.objs.size (.frz { cls := .type "tuple", data := .seq its.toArray } (.tup ys))) { s with heap := h'.push { cls := .type "tuple", data := .seq its.toArray } } :=
      I1.laid (t' := s.toks) (fun b o e => Heap.get?_push_of_some _ e) (Nat.le_refl _) (show ObjOk X.prog X.w _ _ _ (.frz _ (.tup ys)) from ⟨Heap.get?_push_size _ rfl, hz, its, r', IsTup.new _ _⟩)
    exact ⟨.ref h'.objs.size, _, I2, rfl, q _ _ (I1.hok.fresh (Nat.le_refl _)) rfl⟩
  · exact call_tuple_of pins s σ H _ us Q I r ⟨p, ys, rfl, .inr ⟨hq, q⟩⟩
def tBMF (r : V → List V → Hp → VK → Prop) (to : TE) (t : TA) : TE := fun σ H Q => to σ H fun x H1 => (∃ a xs, x = .ref a ∧ TupF H1 a xs) ∧ t σ H1 fun xs H2 => r x xs H2 Q
variable {o e : Expr} {es : List Expr} {to : TE} {t : TA} {name : Str} {apos cpos : Pos} {T id : String} {r : V → List V → Hp → VK → Prop}
theorem pe_bmF (slot : Slot "tuple" name id) (hty : typeOf (.builtin id) = pure (.type "method_descriptor")) (hm : MtR X id r) (ho : PE X o to) (ha : PA X (e :: es) t)
    (hbase : attributeBase o name X.env (eval o X.env) = eval o X.env := by rfl)
    (hfew : ((backTo cpos (starEach (e :: es) X.env)).all (fun x => !x.1) && (backToKw cpos (keywordEach [] X.env)).all (fun x => x.1.isSome)
      && decide ((e :: es).length + ([] : List Keyword).length + (if ([] : List Keyword).isEmpty then 0 else 1) < 30)) = true := by rfl)
    (hline : (apos.endLine == cpos.line) = true := by rfl) (hs : starEach (e :: es) X.env = (false, eval e X.env) :: starEach es X.env := by rfl) (hplain : (backTo cpos (starEach es X.env)).any (·.1) = false := by rfl) :
    PE X (.Call (.Attribute o name apos) (e :: es) [] cpos) (tBMF r to t) := by
  refine ⟨fun pins s σ H Q I h => ?_⟩
  refine wpAny_Call_method_late hbase hfew hline rfl (thn (ho.run pins s σ H _ I h) fun v s1 ⟨x, H1, I1, r1, ty, q1⟩ => ?_)
  obtain ⟨a, xs, rfl, oo, ho2, hd⟩ := ty
  cases r1
  obtain ⟨g1, g2⟩ := I1.hok a _ ho2
  obtain ⟨hz, its, rv, hit⟩ := g2
  obtain ⟨o2, e2, hc, n2, hdat⟩ := hit
  rw [g1] at e2
  cases e2
  refine ⟨"tuple", id, F.plainAttrs_tuple, slot, hty, ⟨_, g1, hc⟩, fun b eb => ?_, ?_⟩
  · cases eb
    exact ⟨_, g1, hd⟩
  have hA := ha.run cpos pins s1 σ H1 _ I1 q1
  rw [hs] at hA ⊢
  refine Calls.callWith_builtin (by show (false || (backTo cpos (starEach es X.env)).any (·.1)) = false; rw [hplain] <;> rfl) (Calls.evalArgs_plain ?_)
  exact thn hA fun us s2 ⟨vs, H2, I2, r2, q2⟩ => hm pins s2 σ H2 (.ref a) vs _ us Q I2 (show RelV (.ref a) (Value.ref a) from rfl) r2 q2
theorem lay_ints : ∀ ns : List Int, PyData.canLayAll0 (ns.map PyData.int) = true
  | [] => rfl
  | n :: ns => by
    rw [List.map_cons, PyData.canLayAll0, lay_ints ns]
    rfl
/-- t.index(k), whole numbers, k there -/
def rIndexT (K : PySem.W.Frag) : V → List V → Hp → VK → Prop := fun x vs H Q => ∃ (a : Addr) (ns : List Int) (k : Int) (j : Nat), x = .ref a ∧ vs = [.int k] ∧ SqT K H a (ns.map V.int) ∧ ns[j]? = some k ∧ (∀ m, m < j → ns[m]? ≠ some k) ∧ Q (.int (j : Nat)) H
theorem mt_indexTI (hu : X.A.units + 65 < cLine) : MtR X "tuple.index" (rIndexT X.K) := by
  intro pins s σ H x xs v us Q I rx rxs h
  obtain ⟨a, ns, k, j, rfl, rfl, hl, hj, hno, q⟩ := h
  cases rx
  cases rxs with
  | cons ry rt =>
    rename_i uy ut
    cases rt
    obtain ⟨its, rv, pl, hlen⟩ := I.tuple hl
    obtain ⟨as, h4⟩ := Dp.readsAll I (ns.map PyData.int) _ its (dpAll_ints _ _ ns) rv
    obtain ⟨bs, r1⟩ := Dp.reads I (.int k) _ uy (.int k) ry
    have hjl := (List.getElem?_eq_some_iff.mp hj).1
    have hvl := rv.length
    rw [List.length_map] at hvl hlen
    obtain ⟨⟨cls, dd, data, sl⟩, ho, hc, n, hd'⟩ := id pl
    simp only at hc hd'
    subst hc hd'
    have hxs : PyData.canLayAll0 (ns.map PyData.int) = true := lay_ints ns
    have hmap : its.map (SeqAt.readOf s.heap) = ns.map PyData.int := SeqAt.readsAll_map _ its as hxs h4
    have at_ : ∀ (m : Nat) (hm : m < its.toArray.size) (z : Int), ns[m]? = some z → SeqAt.readOf s.heap its.toArray[m] = .int z := by
      intro m hm z hz
      have hml : m < its.length := by simpa using hm
      have e1 : (its.map (SeqAt.readOf s.heap))[m]? = some (.int z) := by rw [hmap, List.getElem?_map, hz]; rfl
      rw [List.getElem?_map, List.getElem?_eq_getElem hml] at e1
      have e2 : SeqAt.readOf s.heap its[m] = .int z := Option.some.inj e1
      simpa using e2
    have hj2 : j < its.toArray.size := by simp only [List.size_toArray]; omega
    refine call_meets F.slot_tuple_index ⟨_, ho, rfl⟩ F.entry_tuple_index (F.args_tuple_index_2 _ _)
      (TI.tuple_indexAt a its.toArray n dd sl uy (fun u => PyData.eqv (SeqAt.readOf s.heap u) (.int k)) j hj2 ?_ ?_) ⟨ho, SeqAt.items_eqAt (vs := its.toArray) (show ReadsAll s.heap its.toArray.toList (ns.map PyData.int) as from h4) r1 hxs rfl (Nat.lt_of_le_of_lt (Nat.add_le_add_left (Nat.min_le_right _ _) _) (by simp only [PyData.depth]; omega)), ?_⟩
    · show PyData.eqv (SeqAt.readOf s.heap its.toArray[j]) (.int k) = true
      rw [at_ j hj2 k hj]
      show (k == k) = true
      exact beq_self_eq_true k
    · intro m hm hmj
      have hmn : m < ns.length := by simp only [List.size_toArray] at hm; omega
      have hz : ns[m]? = some ns[m] := List.getElem?_eq_getElem hmn
      show PyData.eqv (SeqAt.readOf s.heap its.toArray[m]) (.int k) = false
      rw [at_ m hm _ hz]
      show (ns[m] == k) = false
      exact beq_eq_false_iff_ne.mpr fun z => hno m hmj (by rw [hz, z])
    · exact ⟨.int (j : Nat), H, I.tok _, ⟨_, rfl⟩, q⟩
/-- x.count(y), two names, x a list or a known tuple of whole numbers -/
def tCnt (K : PySem.W.Frag) (i j : Nat) : TE := fun σ H Q => ∃ (a : Addr) (ns : List Int) (k : Int), σ[i]? = some (some (.ref a)) ∧ σ[j]? = some (some (.int k)) ∧ (SqL K H a (ns.map V.int) ∨ TupF H a (ns.map V.int)) ∧ Q (.int (ns.count k : Nat)) H
theorem pe_cnt {e : Expr} {i j : Nat} (h1 : PE X e (tBM X.K "list" (rCountL X.K) (tVar i) (tCons (tVar j) tNil))) (h2 : PE X e (tBMF (rCountT X.K) (tVar i) (tCons (tVar j) tNil))) : PE X e (tCnt X.K i j) := by
  refine ⟨fun pins s σ H Q I h => ?_⟩
  obtain ⟨a, ns, k, e1, e2, h, q⟩ := h
  rcases h with h | h
  · exact h1.run pins s σ H Q I ⟨_, e1, .inl ⟨rfl, _, h⟩, _, e2, a, ns, k, rfl, rfl, h, q⟩
  · exact h2.run pins s σ H Q I ⟨_, e1, ⟨a, _, rfl, h⟩, _, e2, a, ns, k, rfl, rfl, h.sq, q⟩
end
/-- two promises of one def -/
theorem FnOk.or {P : Program} {w : World} {K : PySem.W.Frag} {mg : Str → Option Value} {base : Heap} {CX : CXT} {k : Nat} {f : Addr} {fd : FuncData} {ps : List Str} {s1 s2 : Sp} (F1 : FnOk P w K mg base CX k f fd ps s1) (F2 : FnOk P w K mg base CX k f fd ps s2) :
    FnOk P w K mg base CX k f fd ps (fun vs H Q E => s1 vs H Q E ∨ s2 vs H Q E) := by
  refine ⟨fun vs H Q E h => h.elim (F1.len vs H Q E) (F2.len vs H Q E), ?_⟩
  intro A outer s H args us vs Q E hr e b
  have h1 := F1.run A outer s H args us vs Q E hr e b
  have h2 := F2.run A outer s H args us vs Q E hr e b
  intros
  first
    | (rename_i h; exact h.elim (fun z => h1 (by assumption) z) (fun z => h2 (by assumption) z))
    | (rename_i h; exact h.elim h1 h2)
end L2

set_option Elab.async false
set_option linter.all false
set_option maxRecDepth 100000
set_option maxHeartbeats 2000000
/-! own rules: tuple(xs), xs a list or a tuple, in one reading -/
namespace L2
open PySem PySem.Spec PyProof.Rows L2
def rTupU : List V → Hp → VK → Prop := fun xs H Q => ∃ p ys, xs = [V.ref p] ∧ (H p = some (.lst ys) ∨ H p = some (.tup ys)) ∧ ∀ t H', Same H H' → H' t = some (.tup ys) → Q (.ref t) H'
theorem call_tupU {X : Cx} : CallR X (.type "tuple") rTupU := by
  intro pins s σ H xs us Q I r ⟨p, ys, e, h, q⟩
  rcases h with h | h
  · exact call_tuple_of pins s σ H xs us Q I r ⟨p, ys, e, .inl ⟨SqL.of h, fun l nl => q l _ (fun b o e => by rw [upd_ne (ne_of_none e nl)]; exact e) upd_same⟩⟩
  · exact call_tuple_of pins s σ H xs us Q I r ⟨p, ys, e, .inr ⟨SqT.of h, q p H (Same.refl _) h⟩⟩
def rCatU : R2 := fun x y H Q => ∃ a b xs ys, x = .ref a ∧ y = .ref b ∧ H a = some (.tup xs) ∧ H b = some (.tup ys) ∧ xs.length + ys.length ≤ sizeLine ∧ ∀ t H', Same H H' → H' t = some (.tup (xs ++ ys)) → Q (.ref t) H'
theorem op_catU {X : Cx} : OpR X (binaryOp .Add) rCatU := by
  intro pins s σ H x y v u Q I rx ry h
  obtain ⟨a, b, xs, ys, ex, ey, ha, hb, hz, q⟩ := h
  refine op_catA pins s σ H x y v u Q I rx ry ⟨a, b, xs, ys, ex, ey, SqT.of ha, SqT.of hb, hz, fun e => ?_, fun _ e => ?_, fun _ _ p np => q p _ (fun b o e => by rw [upd_ne (ne_of_none e np)]; exact e) upd_same⟩
  · exact q b H (fun _ _ e => e) (by rw [e]; exact hb)
  · exact q a H (fun _ _ e => e) (by rw [e, List.append_nil]; exact ha)
def rSlU : V → Option Int → Option Int → Hp → VK → Prop := fun x lo hi H Q => ∃ a xs, x = .ref a ∧ H a = some (.tup xs) ∧ ∀ (p : Addr) (H' : Hp), Same H H' → H' p = some (.tup (cutV xs lo hi)) → Q (.ref p) H'
theorem sl_tupU {X : Cx} : SlR X rSlU := by
  intro pins s σ H x v vl vu lo hi sl Q I rx hs pl pu h
  obtain ⟨a, xs, ex, hx, q⟩ := h
  refine sl_tupA pins s σ H x v vl vu lo hi sl Q I rx hs pl pu ⟨a, xs, ex, SqT.of hx, fun y => ?_, fun _ p np => q p _ (fun b o e => by rw [upd_ne (ne_of_none e np)]; exact e) upd_same⟩
  refine q a H (fun _ _ e => e) ?_
  have : cutV xs lo hi = xs := by
    unfold cutV
    rw [y.1, y.2, List.drop_zero, Nat.sub_zero, List.take_length]
  rw [this]
  exact hx
end L2
namespace Tw
open PySem PySem.Spec PyProof.Rows L2 PySem.W
section
variable {X : Cx} {CX : CXT} {k : Nat} {f C D : Addr} {fd : FuncData} {ps : List Str} {sp : Sp} {E : XK}
theorem op_eq_two (c : EqC X.K C f) (hd : PySem.W.notFirst X.K C (.ref D) = true) (F : FnOk X.prog X.w X.K X.mg X.base CX k f fd ps sp) (hr : Room k X.A) (hb : Binds X.K fd ps []) (hx : Passes CX X E) : OpR X (compareOp .Eq) (fun x y H Q =>
  ∃ a dx fs b dy gs, x = .ref a ∧ H a = some (.ins C dx fs) ∧ y = .ref b ∧ H b = some (.ins D dy gs) ∧ sp [.ref a, y] H (fun v H' => ∃ r, v = .bl r ∧ Q (.bl r) H') E) := by
  intro pins s σ H x y v u Q I rx ry ⟨a, dx, fs, b, dy, gs, ex, ha, ey, hb2, q⟩
  subst ex
  subst ey
  obtain rfl : v = Value.ref a := rx
  obtain rfl : u = Value.ref b := ry
  obtain ⟨mA, O, rr, _, _, _⟩ := ins_get I.hok ha
  obtain ⟨od, J, hl⟩ := O.look
  obtain ⟨mB, OB, rrB, _, _, _⟩ := ins_get I.hok hb2
  obtain ⟨odB, JB, hlB⟩ := OB.look
  obtain ⟨m0, hF⟩ := I.fr
  show wpAny _ _ (richCompare .Eq (.ref a) (.ref b)) _ _ _
  refine cmp_K hr.units0 hF I.ok.mod.kin J JB.type hd c.eq c.fn (thn (run_sub F ⟨hr, rfl⟩ hb hx I (.cons (relR a) (.cons (relR b) .nil)) q) fun r s' ⟨z, H', I', rz, b2, ez, q'⟩ => ?_)
  subst ez
  obtain rfl : r = Value.bool b2 := rz
  exact ⟨_, H', I', relB b2, q'⟩
end
end Tw

set_option Elab.async false
set_option linter.all false
set_option maxRecDepth 100000
set_option maxHeartbeats 4000000
/-! min(xs), xs a list of tuples of ints -/
namespace L2
open PySem PySem.Spec PyProof.Rows PySem.W
theorem tupE_lt (p q : List Int) : dataLt (tupE p) (tupE q) = decide (p < q) := by
  show dataLt (.tuple (p.map .int)) (.tuple (q.map .int)) = _
  rw [dataLt_tuple]
  show rowLt (p.map .int) (q.map .int) = _
  rw [dataLt_ints]
theorem minD_ints : ∀ (r : List (List Int)) (b : List Int), ∃ m, minD (tupE b) (r.map tupE) = tupE m ∧ m ∈ b :: r ∧ ∀ z ∈ b :: r, m ≤ z
  | [], b => ⟨b, rfl, List.mem_cons_self, fun z hz => by rw [List.mem_singleton.mp hz]; exact List.le_refl _⟩
  | c :: r, b => by
    have e : minD (tupE b) ((c :: r).map tupE) = minD (if decide (c < b) = true then tupE c else tupE b) (r.map tupE) := by
      show List.foldl _ _ _ = List.foldl _ _ _
      rw [List.map_cons, List.foldl_cons, tupE_lt]
    rw [e]
    by_cases h : c < b
    · rw [if_pos (decide_eq_true h)]
      obtain ⟨m, e1, e2, e3⟩ := minD_ints r c
      refine ⟨m, e1, List.mem_cons_of_mem _ e2, fun z hz => ?_⟩
      rcases List.mem_cons.mp hz with rfl | hz
      · exact List.le_trans (e3 c List.mem_cons_self) (List.le_of_lt h)
      · exact e3 z hz
    · rw [if_neg (fun z => h (of_decide_eq_true z))]
      obtain ⟨m, e1, e2, e3⟩ := minD_ints r b
      refine ⟨m, e1, ?_, fun z hz => ?_⟩
      · rcases List.mem_cons.mp e2 with rfl | e2
        · exact List.mem_cons_self
        · exact List.mem_cons_of_mem _ (List.mem_cons_of_mem _ e2)
      · rcases List.mem_cons.mp hz with rfl | hz
        · exact e3 _ List.mem_cons_self
        · rcases List.mem_cons.mp hz with rfl | hz
          · exact List.le_trans (e3 b List.mem_cons_self) (List.not_lt.mp h)
          · exact e3 z (List.mem_cons_of_mem _ hz)
theorem tupE_depth (b : List Int) : (tupE b).depth ≤ 1 := by
  simp [PyData.depth, depth_ints]
theorem tupE_depths : ∀ bs : List (List Int), PyData.depthAll (bs.map tupE) ≤ 1
  | [] => by simp [PyData.depthAll]
  | b :: bs => by
    have h1 := tupE_depth b
    have h2 := tupE_depths bs
    rw [List.map_cons, PyData.depthAll]
    omega
section
variable {X : Cx} {pins : List (Addr × Obj)} {σ : St} {H : Hp} {s : Shared}
theorem readsAll_tups (I : Inv X pins σ H s) : ∀ {us : List Value} {bs : List (List Int)}, EachIs (TupV X.K H) us bs → ∃ as, ReadsAll s.heap us (bs.map tupE) as
  | _, _, .nil => ⟨_, .nil⟩
  | _, _, .cons h p => by
    obtain ⟨as, r⟩ := tupV_reads I h
    obtain ⟨bs, rs⟩ := readsAll_tups I p
    exact ⟨_, .cons r rs⟩
theorem ints_lay : ∀ ns : List Int, PyData.canLayAll0 (ns.map .int) = true
  | [] => rfl
  | a :: ns => by
    rw [List.map_cons]
    simp [PyData.canLayAll0, PyData.canLay0, ints_lay ns]
theorem pdi_inj : ∀ ms ns : List Int, ms.map PyData.int = ns.map PyData.int → ms = ns
  | [], [], _ => rfl
  | [], b :: ns, h => by simp at h
  | a :: ms, [], h => by simp at h
  | a :: ms, b :: ns, h => by
    rw [List.map_cons, List.map_cons] at h
    injection h with h1 h2
    injection h1 with h1
    rw [h1, pdi_inj ms ns h2]
theorem reads_tup_one {h : Heap} {t : Addr} {ms ns : List Int} {as bs : List Addr} (h1 : Reads h (.ref t) (tupE ms) as) (h2 : Reads h (.ref t) (tupE ns) bs) : ms = ns := by
  have e := SeqAt.ReadsAll.unique [tupE ms] [tupE ns] [.ref t] _ _ (by simp [PyData.canLayAll0, PyData.canLay0, ints_lay]) (.cons h1 .nil) (.cons h2 .nil)
  have e2 := (List.cons.inj e).1
  unfold tupE at e2
  injection e2 with e2
  exact pdi_inj ms ns e2
/-- min(xs) -/
def rMinTA (K : PySem.W.Frag) : List V → Hp → VK → Prop := fun vs H Q => ∃ (a : Addr) (xs : List V) (bs : List (List Int)), vs = [V.ref a] ∧ SqL K H a xs ∧ Paired (TupI K H) xs bs ∧ bs ≠ [] ∧
  ∀ (t : Addr) (m : List Int), SqT K H t (m.map V.int) → m ∈ bs → (∀ z ∈ bs, m ≤ z) → Q (.ref t) H
theorem each_at {R : Value → List Int → Prop} : ∀ {us : List Value} {bs : List (List Int)}, EachIs R us bs → ∀ {i : Nat} {v : Value}, us[i]? = some v → ∃ b, R v b
  | _, _, .nil, i, v, h => by simp at h
  | _, _, .cons h p, 0, v, e => by
    cases e
    exact ⟨_, h⟩
  | _, _, .cons h p, i + 1, v, e => each_at p e
theorem cr_minTA (hh : X.A.handled = none) (hu : X.A.units + 65 < cLine) : CallR X (.builtin "min") (rMinTA X.K) := by
  intro pins s σ H vs us Q I r h
  obtain ⟨a, xs, bs, rfl, hs, hp, hne, q⟩ := h
  obtain ⟨its, rv, hl, hz⟩ := I.list hs
  rw [Vals.ref1 r]
  have e0 : EachIs (TupV X.K H) its bs := tupV_of hp rv
  match bs, hne, e0, q with
  | b :: r, _, e0, q =>
    obtain ⟨as, ra⟩ := readsAll_tups I e0
    obtain ⟨m, em, hm, hle⟩ := minD_ints r b
    refine min_list_data (x := tupE b) (xs := r.map tupE) hh hl.isList (by simpa using ra) ⟨?_, ?_⟩ ?_ fun i v h' tk cs hv hr kp => ?_
    · intro x hx y hy
      rw [← List.map_cons] at hx hy
      obtain ⟨b1, _, rfl⟩ := List.mem_map.mp hx
      obtain ⟨b2, _, rfl⟩ := List.mem_map.mp hy
      simp [alike, alike_ints]
    · intro x hx
      rw [← List.map_cons] at hx
      obtain ⟨b1, _, rfl⟩ := List.mem_map.mp hx
      intro z
      cases z
    · have := tupE_depths (b :: r)
      rw [List.map_cons] at this
      omega
    · have hv' : its[i]? = some v := by simpa using hv
      obtain ⟨ns, t, rfl, ht⟩ := each_at e0 hv'
      rw [em] at hr
      have e1 : ns = m := by
        obtain ⟨bs1, r1⟩ := tupV_reads I ⟨t, rfl, ht⟩
        exact reads_tup_one (reads_keeps kp r1) hr
      subst e1
      exact ⟨.ref t, H, I.kept kp, rfl, q t ns ht hm hle⟩
end
end L2

set_option Elab.async false
set_option linter.all false
set_option maxRecDepth 100000
set_option maxHeartbeats 4000000
/-! t * n, t a tuple, n from 0 on -/
namespace PySem
open PySem PySem.W PySem.AutoSeq1
theorem tuple_mul1 (l : Addr) (items : Array Value) (n : Nat) (dd : Option Addr) (sl : Array (Option Value)) (u : Tok) :
    Meets (Builtin.«tuple.__mul__» ⟨[.ref l, .int 1 u], []⟩) (fun _ R s => s.heap.get? l = some { cls := .type "tuple", dict := dd, data := .seq items n, slots := sl } ∧ R (.ok (.ret (.ref l))) s) :=
  .of_wp fun prog w A R s h => by
    obtain ⟨hp, g, d, tk, os⟩ := s
    obtain ⟨hl, h⟩ := h
    have f1 := idx_int
    have f2 := sub_tuple_tuple
    have h1 : (decide ((1 : Int) < -2 ^ 63) || decide ((1 : Int) ≥ 2 ^ 63)) = false := by decide
    have h2 : (items.isEmpty || (1 : Int) == 1) = true := by simp
    wp_walk using wpAny_loadPart' hl
    exact ⟨_, rfl, h⟩
theorem tuple_mul0 (l : Addr) (items : Array Value) (n : Nat) (dd : Option Addr) (sl : Array (Option Value)) (u : Tok) (hne : items.isEmpty = false) :
    Meets (Builtin.«tuple.__mul__» ⟨[.ref l, .int 0 u], []⟩) (fun _ R s => s.heap.get? l = some { cls := .type "tuple", dict := dd, data := .seq items n, slots := sl } ∧ R (.ok (.ret (.ref s.heap.objs.size))) { s with heap := s.heap.push { cls := .type "tuple", data := .seq #[] 0 } }) :=
  .of_wp fun prog w A R s h => by
    obtain ⟨hp, g, d, tk, os⟩ := s
    obtain ⟨hl, h⟩ := h
    have f1 := idx_int
    have f2 := sub_tuple_tuple
    have h1 : (decide ((0 : Int) < -2 ^ 63) || decide ((0 : Int) ≥ 2 ^ 63)) = false := by decide
    have h2 : (items.isEmpty || (0 : Int) == 1) = false := by simp [hne]
    have h3 : (decide ((0 : Int) ≤ 0) || items.isEmpty) = true := by simp
    wp_walk using wpAny_loadPart' hl
    exact ⟨_, rfl, h⟩
end PySem
namespace L2
open PySem PySem.Spec PyProof.Rows PySem.W
def rRepU : R2 := fun x y H Q => ∃ (l : Addr) (k : Nat) (xs : List V), x = .ref l ∧ y = .int k ∧ H l = some (.tup xs) ∧ xs ≠ [] ∧ k ≤ 1000 ∧ xs.length ≤ 1000 ∧ ∀ t H', Same H H' → H' t = some (.tup (List.replicate k xs).flatten) → Q (.ref t) H'
theorem op_repU {X : Cx} : OpR X (binaryOp .Mult) rRepU := by
  intro pins s σ H x y v u Q I rx ry h
  obtain ⟨l, k, xs, rfl, rfl, hx, hne, hk, hl, q⟩ := h
  by_cases h2 : 2 ≤ k
  · exact op_repT pins s σ H _ _ v u Q I rx ry ⟨l, k, xs, rfl, rfl, SqT.of hx, hne, by omega, by omega, hl, fun p np => q p _ (fun b o e => by rw [upd_ne (ne_of_none e np)]; exact e) (by rw [upd_same, Int.toNat_natCast])⟩
  · cases rx
    obtain ⟨t, rfl⟩ := ry
    obtain ⟨its, rv, tc, hz⟩ := I.tuple (SqT.of hx : SqT X.K H l xs)
    obtain ⟨ob, eb, hc, n2, hd⟩ := id tc
    obtain ⟨cls, dc, data, sl⟩ := ob
    dsimp only at hc hd
    subst hc hd
    have hie : its.toArray.isEmpty = false := by
      have := rv.length
      cases its with
      | nil => exact absurd (List.length_eq_zero_iff.mp this) hne
      | cons a r => rfl
    refine wpAny_binaryOp_repeat_ref (T := "tuple") (U := "int") (by decide +kernel) ⟨_, eb, rfl⟩ (fun _ => rfl) noFill_tuple_mul F.fills_int_mul F.slot_int_rmul repeat_tuple AutoSeq1.idx_int ?_
    refine call_meets F.slot_int_rmul rfl F.entry_int_rmul (F.args_int_rmul_2 _ _) (int_rmul_tuple _ _ _ _ _ _ _) ⟨eb, ?_⟩
    refine ⟨rfl, ⟨_, eb, rfl⟩, ?_⟩
    obtain hk0 | hk1 : k = 0 ∨ k = 1 := by omega
    · subst hk0
      refine call_meets F.slot_tuple_mul ⟨_, eb, rfl⟩ F.entry_tuple_mul (F.args_tuple_mul_2 _ _) (tuple_mul0 _ _ _ _ _ _ hie) ⟨eb, ?_⟩
      have hn := I.hok.fresh (Nat.le_refl s.heap.objs.size)
      exact ⟨.ref s.heap.objs.size, _, I.laid (t' := s.toks) (fun b o e => Heap.get?_push_of_some _ e) (Nat.le_refl _) (show ObjOk X.prog X.w _ _ _ (.tup []) from ⟨Nat.zero_le _, [], .nil, IsTup.new _ _⟩), rfl, q _ _ (fun b o e => by rw [upd_ne (ne_of_none e hn)]; exact e) upd_same⟩
    · subst hk1
      refine call_meets F.slot_tuple_mul ⟨_, eb, rfl⟩ F.entry_tuple_mul (F.args_tuple_mul_2 _ _) (tuple_mul1 _ _ _ _ _ _) ⟨eb, ?_⟩
      refine ⟨.ref l, H, I, rfl, q l H (Same.refl _) ?_⟩
      rw [hx, List.replicate_one, List.flatten_singleton]
end L2

set_option Elab.async false
set_option linter.all false
set_option maxRecDepth 100000
set_option maxHeartbeats 2000000
namespace Tw
open PySem PySem.Spec PyProof.Rows L2
def topS (i : Nat) : Stmt := PySem.Challenge.pw_heaprows_k67_whole_fronts.main.body.getD i (.Pass ⟨0, 0, 0, 0⟩)
abbrev s_is_integer : Stmt := topS 13
theorem sc_is_integer : FnScope ["thing"] ["thing"] (defScope s_is_integer) := ⟨rfl, rfl, rfl, by decide +kernel, rfl, by decide +kernel, by decide +kernel⟩
abbrev s_is_integer_from : Stmt := topS 14
theorem sc_is_integer_from : FnScope ["thing", "least", "greatest"] ["thing", "least", "greatest"] (defScope s_is_integer_from) := ⟨rfl, rfl, rfl, by decide +kernel, rfl, by decide +kernel, by decide +kernel⟩
abbrev s_is_key : Stmt := topS 15
theorem sc_is_key : FnScope ["thing"] ["thing"] (defScope s_is_key) := ⟨rfl, rfl, rfl, by decide +kernel, rfl, by decide +kernel, by decide +kernel⟩
abbrev s_check_arms : Stmt := topS 16
theorem sc_check_arms : FnScope ["arms"] ["arms"] (defScope s_check_arms) := ⟨rfl, rfl, rfl, by decide +kernel, rfl, by decide +kernel, by decide +kernel⟩
abbrev s_check_many : Stmt := topS 17
theorem sc_check_many : FnScope ["many"] ["many"] (defScope s_check_many) := ⟨rfl, rfl, rfl, by decide +kernel, rfl, by decide +kernel, by decide +kernel⟩
abbrev s_check_place : Stmt := topS 18
theorem sc_check_place : FnScope ["place", "many"] ["place", "many"] (defScope s_check_place) := ⟨rfl, rfl, rfl, by decide +kernel, rfl, by decide +kernel, by decide +kernel⟩
abbrev s_row_of : Stmt := topS 19
theorem sc_row_of : FnScope ["row", "index", "key"] ["row"] (defScope s_row_of) := ⟨rfl, rfl, rfl, by decide +kernel, rfl, by decide +kernel, by decide +kernel⟩
abbrev s_check_count : Stmt := topS 26
theorem sc_check_count : FnScope ["count", "many"] ["count", "many"] (defScope s_check_count) := ⟨rfl, rfl, rfl, by decide +kernel, rfl, by decide +kernel, by decide +kernel⟩
abbrev s_t___init__ : Stmt := inClass (topS 21) 0
theorem sc_t___init__ : FnScope ["self", "many", "arms"] ["self", "many", "arms"] (defScope s_t___init__) := ⟨rfl, rfl, rfl, by decide +kernel, rfl, by decide +kernel, by decide +kernel⟩
abbrev s_t_of : Stmt := inClass (topS 21) 1
theorem sc_t_of : FnScope ["cls", "row", "arms"] ["cls", "row", "arms"] (defScope s_t_of) := ⟨rfl, rfl, rfl, by decide +kernel, rfl, by decide +kernel, by decide +kernel⟩
abbrev s_t___len__ : Stmt := inClass (topS 21) 2
theorem sc_t___len__ : FnScope ["self"] ["self"] (defScope s_t___len__) := ⟨rfl, rfl, rfl, by decide +kernel, rfl, by decide +kernel, by decide +kernel⟩
abbrev s_t___iter__ : Stmt := inClass (topS 21) 4
theorem sc_t___iter__ : FnScope ["self"] ["self"] (defScope s_t___iter__) := ⟨rfl, rfl, rfl, by decide +kernel, rfl, by decide +kernel, by decide +kernel⟩
abbrev s_t___getitem__ : Stmt := inClass (topS 21) 5
theorem sc_t___getitem__ : FnScope ["self", "place", "first"] ["self", "place"] (defScope s_t___getitem__) := ⟨rfl, rfl, rfl, by decide +kernel, rfl, by decide +kernel, by decide +kernel⟩
abbrev s_t_parent : Stmt := inClass (topS 21) 7
theorem sc_t_parent : FnScope ["self", "place"] ["self", "place"] (defScope s_t_parent) := ⟨rfl, rfl, rfl, by decide +kernel, rfl, by decide +kernel, by decide +kernel⟩
abbrev s_faults : Stmt := topS 23
theorem sc_faults : FnScope ["row", "arms", "tree", "place"] ["row", "arms"] (defScope s_faults) := ⟨rfl, rfl, rfl, by decide +kernel, rfl, by decide +kernel, by decide +kernel⟩
abbrev s_heap_of : Stmt := topS 24
theorem sc_heap_of : FnScope ["row", "arms", "wrong"] ["row", "arms"] (defScope s_heap_of) := ⟨rfl, rfl, rfl, by decide +kernel, rfl, by decide +kernel, by decide +kernel⟩
abbrev s_f___init__ : Stmt := inClass (topS 28) 0
theorem sc_f___init__ : FnScope ["self", "taken", "waiting"] ["self", "taken", "waiting"] (defScope s_f___init__) := ⟨rfl, rfl, rfl, by decide +kernel, rfl, by decide +kernel, by decide +kernel⟩
abbrev s_f___eq__ : Stmt := inClass (topS 28) 1
theorem sc_f___eq__ : FnScope ["self", "other"] ["self", "other"] (defScope s_f___eq__) := ⟨rfl, rfl, rfl, by decide +kernel, rfl, by decide +kernel, by decide +kernel⟩
abbrev s_f___len__ : Stmt := inClass (topS 28) 2
theorem sc_f___len__ : FnScope ["self"] ["self"] (defScope s_f___len__) := ⟨rfl, rfl, rfl, by decide +kernel, rfl, by decide +kernel, by decide +kernel⟩
abbrev s_front : Stmt := topS 29
theorem sc_front : FnScope ["row", "count", "arms", "heap", "tree", "taken", "waiting", "least", "place"] ["row", "count", "arms"] (defScope s_front) := ⟨rfl, rfl, rfl, by decide +kernel, rfl, by decide +kernel, by decide +kernel⟩
abbrev s_least_keys : Stmt := topS 30
theorem sc_least_keys : FnScope ["row", "count", "arms"] ["row", "count", "arms"] (defScope s_least_keys) := ⟨rfl, rfl, rfl, by decide +kernel, rfl, by decide +kernel, by decide +kernel⟩
abbrev s_counted_heap_of : Stmt := topS 31
theorem sc_counted_heap_of : FnScope ["row", "count", "arms", "heap"] ["row", "count", "arms"] (defScope s_counted_heap_of) := ⟨rfl, rfl, rfl, by decide +kernel, rfl, by decide +kernel, by decide +kernel⟩
abbrev s__law_number : Stmt := topS 33
theorem sc__law_number : FnScope ["script", "index", "cells", "cell", "low", "high", "total", "blend"] ["script", "index"] (defScope s__law_number) := ⟨rfl, rfl, rfl, by decide +kernel, rfl, by decide +kernel, by decide +kernel⟩
abbrev s__law_heap : Stmt := topS 34
theorem sc__law_heap : FnScope ["script", "at", "many", "wide", "span", "found", "place", "least"] ["script", "at", "many", "wide", "span"] (defScope s__law_heap) := ⟨rfl, rfl, rfl, by decide +kernel, rfl, by decide +kernel, by decide +kernel⟩
abbrev s__law_walked : Stmt := topS 35
theorem sc__law_walked : FnScope ["row", "count", "wide", "gone", "waiting", "turn", "first", "place", "best"] ["row", "count", "wide"] (defScope s__law_walked) := ⟨rfl, rfl, rfl, by decide +kernel, rfl, by decide +kernel, by decide +kernel⟩
abbrev s__law_right : Stmt := topS 36
theorem sc__law_right : FnScope ["row", "wide", "count", "gone", "waiting", "found", "told", "place"] ["row", "wide"] (defScope s__law_right) := ⟨rfl, rfl, rfl, by decide +kernel, rfl, by decide +kernel, by decide +kernel⟩
abbrev s_law : Stmt := topS 37
theorem sc_law : FnScope ["script", "seed", "many", "wide", "span", "row", "lists", "made"] ["script"] (defScope s_law) := ⟨rfl, rfl, rfl, by decide +kernel, rfl, by decide +kernel, by decide +kernel⟩
/-- where the text's defs stand -/
structure Ad where
  f_is_integer : Addr
  d_is_integer : FuncData
  f_is_integer_from : Addr
  d_is_integer_from : FuncData
  f_is_key : Addr
  d_is_key : FuncData
  f_check_arms : Addr
  d_check_arms : FuncData
  f_check_many : Addr
  d_check_many : FuncData
  f_check_place : Addr
  d_check_place : FuncData
  f_row_of : Addr
  d_row_of : FuncData
  f_check_count : Addr
  d_check_count : FuncData
  f_t___init__ : Addr
  d_t___init__ : FuncData
  f_t_of : Addr
  d_t_of : FuncData
  f_t___len__ : Addr
  d_t___len__ : FuncData
  f_t___iter__ : Addr
  d_t___iter__ : FuncData
  f_t___getitem__ : Addr
  d_t___getitem__ : FuncData
  f_t_parent : Addr
  d_t_parent : FuncData
  f_faults : Addr
  d_faults : FuncData
  f_heap_of : Addr
  d_heap_of : FuncData
  f_f___init__ : Addr
  d_f___init__ : FuncData
  f_f___eq__ : Addr
  d_f___eq__ : FuncData
  f_f___len__ : Addr
  d_f___len__ : FuncData
  f_front : Addr
  d_front : FuncData
  f_least_keys : Addr
  d_least_keys : FuncData
  f_counted_heap_of : Addr
  d_counted_heap_of : FuncData
  f__law_number : Addr
  d__law_number : FuncData
  f__law_heap : Addr
  d__law_heap : FuncData
  f__law_walked : Addr
  d__law_walked : FuncData
  f__law_right : Addr
  d__law_right : FuncData
  f_law : Addr
  d_law : FuncData
  C : Addr
  po : Addr
  CF : Addr
/-- what the top has written -/
structure Tx (K : PySem.W.Frag) (mg : Str → Option Value) (A : Ad) : Prop where
  F_is_integer : Fun K "is_integer" "is_integer" s_is_integer A.f_is_integer A.d_is_integer
  m_is_integer : mg "is_integer" = some (.ref A.f_is_integer)
  F_is_integer_from : Fun K "is_integer_from" "is_integer_from" s_is_integer_from A.f_is_integer_from A.d_is_integer_from
  m_is_integer_from : mg "is_integer_from" = some (.ref A.f_is_integer_from)
  F_is_key : Fun K "is_key" "is_key" s_is_key A.f_is_key A.d_is_key
  m_is_key : mg "is_key" = some (.ref A.f_is_key)
  F_check_arms : Fun K "check_arms" "check_arms" s_check_arms A.f_check_arms A.d_check_arms
  m_check_arms : mg "check_arms" = some (.ref A.f_check_arms)
  F_check_many : Fun K "check_many" "check_many" s_check_many A.f_check_many A.d_check_many
  m_check_many : mg "check_many" = some (.ref A.f_check_many)
  F_check_place : Fun K "check_place" "check_place" s_check_place A.f_check_place A.d_check_place
  m_check_place : mg "check_place" = some (.ref A.f_check_place)
  F_row_of : Fun K "row_of" "row_of" s_row_of A.f_row_of A.d_row_of
  m_row_of : mg "row_of" = some (.ref A.f_row_of)
  F_check_count : Fun K "check_count" "check_count" s_check_count A.f_check_count A.d_check_count
  m_check_count : mg "check_count" = some (.ref A.f_check_count)
  F_t___init__ : FunD K "__init__" "Tree.__init__" (defArgs s_t___init__) (defBody s_t___init__) (defScope s_t___init__) [] [("arms", V.int 2)] A.f_t___init__ A.d_t___init__
  F_t_of : FunD K "of" "Tree.of" (defArgs s_t_of) (defBody s_t_of) (defScope s_t_of) [] [("arms", V.int 2)] A.f_t_of A.d_t_of
  F_t___len__ : Fun K "__len__" "Tree.__len__" s_t___len__ A.f_t___len__ A.d_t___len__
  D_t___len__ : Dn K A.C "__len__" A.f_t___len__
  F_t___iter__ : Fun K "__iter__" "Tree.__iter__" s_t___iter__ A.f_t___iter__ A.d_t___iter__
  D_t___iter__ : Dn K A.C "__iter__" A.f_t___iter__
  F_t___getitem__ : Fun K "__getitem__" "Tree.__getitem__" s_t___getitem__ A.f_t___getitem__ A.d_t___getitem__
  D_t___getitem__ : Dn K A.C "__getitem__" A.f_t___getitem__
  F_t_parent : Fun K "parent" "Tree.parent" s_t_parent A.f_t_parent A.d_t_parent
  M_t_parent : Meth K A.C "parent" A.f_t_parent
  F_faults : FunD K "faults" "faults" (defArgs s_faults) (defBody s_faults) (defScope s_faults) [] [("arms", V.int 2)] A.f_faults A.d_faults
  m_faults : mg "faults" = some (.ref A.f_faults)
  F_heap_of : Fun K "heap_of" "heap_of" s_heap_of A.f_heap_of A.d_heap_of
  m_heap_of : mg "heap_of" = some (.ref A.f_heap_of)
  F_f___init__ : Fun K "__init__" "Front.__init__" s_f___init__ A.f_f___init__ A.d_f___init__
  F_f___eq__ : Fun K "__eq__" "Front.__eq__" s_f___eq__ A.f_f___eq__ A.d_f___eq__
  F_f___len__ : Fun K "__len__" "Front.__len__" s_f___len__ A.f_f___len__ A.d_f___len__
  D_f___len__ : Dn K A.CF "__len__" A.f_f___len__
  F_front : FunD K "front" "front" (defArgs s_front) (defBody s_front) (defScope s_front) [] [("arms", V.int 2)] A.f_front A.d_front
  m_front : mg "front" = some (.ref A.f_front)
  F_least_keys : FunD K "least_keys" "least_keys" (defArgs s_least_keys) (defBody s_least_keys) (defScope s_least_keys) [] [("arms", V.int 2)] A.f_least_keys A.d_least_keys
  m_least_keys : mg "least_keys" = some (.ref A.f_least_keys)
  F_counted_heap_of : Fun K "counted_heap_of" "counted_heap_of" s_counted_heap_of A.f_counted_heap_of A.d_counted_heap_of
  m_counted_heap_of : mg "counted_heap_of" = some (.ref A.f_counted_heap_of)
  F__law_number : Fun K "_law_number" "_law_number" s__law_number A.f__law_number A.d__law_number
  m__law_number : mg "_law_number" = some (.ref A.f__law_number)
  F__law_heap : Fun K "_law_heap" "_law_heap" s__law_heap A.f__law_heap A.d__law_heap
  m__law_heap : mg "_law_heap" = some (.ref A.f__law_heap)
  F__law_walked : Fun K "_law_walked" "_law_walked" s__law_walked A.f__law_walked A.d__law_walked
  m__law_walked : mg "_law_walked" = some (.ref A.f__law_walked)
  F__law_right : Fun K "_law_right" "_law_right" s__law_right A.f__law_right A.d__law_right
  m__law_right : mg "_law_right" = some (.ref A.f__law_right)
  F_law : Fun K "law" "law" s_law A.f_law A.d_law
  m_law : mg "law" = some (.ref A.f_law)
  c_GREATEST_KEY : mg "GREATEST_KEY" = some (.int 1000000000 0) ∨ ∃ t, mg "GREATEST_KEY" = some (.int 1000000000 t)
  c_MOST_ARMS : mg "MOST_ARMS" = some (.int 4 0) ∨ ∃ t, mg "MOST_ARMS" = some (.int 4 t)
  c_MOST_PLACES : mg "MOST_PLACES" = some (.int 12 0) ∨ ∃ t, mg "MOST_PLACES" = some (.int 12 t)
  g_bool : mg "bool" = none
  g_enumerate : mg "enumerate" = none
  g_int : mg "int" = none
  g_isinstance : mg "isinstance" = none
  g_iter : mg "iter" = none
  g_len : mg "len" = none
  g_list : mg "list" = none
  g_min : mg "min" = none
  g_range : mg "range" = none
  g_sorted : mg "sorted" = none
  g_sum : mg "sum" = none
  g_tuple : mg "tuple" = none
  cT : Cls K A.C
  nMany : NoAttr K A.C "many"
  nArms : NoAttr K A.C "arms"
  nPl : NoAttr K A.C "_places"
  mC : mg "Tree" = some (.ref A.C)
  mkC : Mk K A.C A.f_t___init__
  cr : ClX.CRead K A.C (.type "type")
  cof : ClX.CMet K A.C (.type "type") "of" A.po A.f_t_of
  cTF : Cls K A.CF
  fTaken : NoAttr K A.CF "taken"
  fWait : NoAttr K A.CF "waiting"
  mCF : mg "Front" = some (.ref A.CF)
  mkCF : Mk K A.CF A.f_f___init__
  eqcF : EqC K A.CF A.f_f___eq__
  kaF : PySem.W.findIn K (.ref A.CF) "__class__" = some (some (.builtin "object.__class__"))
  knF : PySem.W.specialIn K (.builtin "object.__class__") "__get__" = some (some (.builtin "getset_descriptor.__get__"))
  ktkF : PySem.W.takesIn K (.builtin "object.__class__") = some true
  kmF : PySem.W.mroIn K A.CF (.type "object") = some true
  kiF_int : PySem.W.kitOne K (.type "int") (.ref A.CF) = some false
  kiF_tuple : PySem.W.kitOne K (.type "tuple") (.ref A.CF) = some false

end Tw

set_option Elab.async false
set_option linter.all false
set_option maxRecDepth 100000
set_option maxHeartbeats 2000000
namespace Tw
open PySem PySem.Spec PyProof.Rows L2
section
variable {P : Program} {w : World} {K : PySem.W.Frag} {mg : Str → Option Value} {base : Heap} {A : Ad}
open LamX (ExtN Tabs TabS)
theorem extN_of {H H' : Hp} (s : Same H H') : ExtN H H' := fun b o e _ => s b o e
theorem ints_all : ∀ ks ms : List Int, PyData.eqvAll (ks.map PyData.int) (ms.map PyData.int) = decide (ks = ms)
  | [], [] => by simp [PyData.eqvAll]
  | [], m :: ms => by simp [PyData.eqvAll]
  | k :: ks, [] => by simp [PyData.eqvAll]
  | k :: ks, m :: ms => by
    simp only [List.map_cons, PyData.eqvAll, ints_all ks ms, PyData.eqv]
    by_cases h1 : k = m
    · by_cases h2 : ks = ms <;> simp [h1, h2]
    · simp [h1]
theorem ints_eqv (ks ms : List Int) : PyData.eqv (.tuple (ks.map PyData.int)) (.tuple (ms.map PyData.int)) = decide (ks = ms) := by
  rw [← ints_all]
  simp [PyData.eqv]
theorem shaped_ints (ns : List Int) : SeqAt.shaped (.list (ns.map PyData.int)) = true := by
  have h1 : ∀ ms : List Int, PyData.canLayAll0 (ms.map PyData.int) = true := fun ms => by
    induction ms with
    | nil => rfl
    | cons m ms ih => rw [List.map_cons, PyData.canLayAll0, ih]; rfl
  have h2 : ∀ ms : List Int, PyData.depthAll (ms.map PyData.int) ≤ 1 := fun ms => by
    induction ms with
    | nil => simp [PyData.depthAll]
    | cons m ms ih =>
      simp only [List.map_cons, PyData.depthAll, PyData.depth]
      omega
  have h3 : PyData.depth (.list (ns.map PyData.int)) ≤ 64 := by
    have := h2 ns
    simp only [PyData.depth]
    omega
  unfold SeqAt.shaped
  rw [decide_eq_true h3, Bool.and_true]
  simp only [PyData.canLay0]
  exact h1 ns
theorem ints_shT (ks : List Int) : SeqAt.shaped (.tuple (ks.map PyData.int)) = true := by
  have h := shaped_ints ks
  unfold SeqAt.shaped at h ⊢
  simp only [PyData.canLay0, PyData.depth] at h ⊢
  exact h
theorem ints_dp (K : PySem.W.Frag) (H : Hp) : ∀ ns : List Int, DpAll K H (ns.map V.int) (ns.map PyData.int)
  | [] => .nil
  | n :: ns => .cons (.int n) (ints_dp K H ns)
theorem ints_tup (K : PySem.W.Frag) {H : Hp} {a : Addr} {ks : List Int} (h : H a = some (.tup (ks.map V.int))) : Dp K H (.ref a) (.tuple (ks.map PyData.int)) := .tup (SqT.of h) (ints_dp K H ks)
end
end Tw

set_option Elab.async false
set_option linter.all false
set_option maxRecDepth 100000
set_option maxHeartbeats 2000000
namespace Tw
open PySem PySem.Spec PyProof.Rows L2
section
variable {P : Program} {w : World} {K : PySem.W.Frag} {mg : Str → Option Value} {base : Heap} {A : Ad}
open LamX (ExtN Tabs TabS)
theorem int_deq (a b : Int) : decide (V.int a = V.int b) = decide (a = b) := by
  by_cases h : a = b
  · rw [decide_eq_true h, decide_eq_true (by rw [h])]
  · rw [decide_eq_false h, decide_eq_false fun z => h (by injection z)]
/-! Front -/
def fdF (v0 v1 : V) : List (Str × V) := putF "waiting" v1 (putF "taken" v0 (([] : List (Str × V))))
theorem fdF_taken (v0 v1 : V) : (fdF v0 v1).lookup ("taken" : Str) = some v0 := by
  unfold fdF
  rw [lookup_putF, if_neg (by decide +kernel), lookup_putF, if_pos rfl]
theorem fdF_waiting (v0 v1 : V) : (fdF v0 v1).lookup ("waiting" : Str) = some v1 := by
  unfold fdF
  rw [lookup_putF, if_pos rfl]
def AtF (C : Addr) (H : Hp) (p : Addr) (x0 : List Int) (x1 : List Int) : Prop := ∃ (dx t0 t1 : Addr), H p = some (.ins C dx (fdF (.ref t0) (.ref t1))) ∧ H t0 = some (.tup (x0.map V.int)) ∧ H t1 = some (.tup (x1.map V.int))
theorem AtF.ext {C : Addr} {H H' : Hp} {p : Addr} {x0 : List Int} {x1 : List Int} (h : AtF C H p x0 x1) (e : LamX.ExtN H H') : AtF C H' p x0 x1 := let ⟨dx, t0, t1, h, e0, e1⟩ := h; ⟨dx, t0, t1, e _ _ h (fun _ z => nomatch z), e _ _ e0 (fun _ z => nomatch z), e _ _ e1 (fun _ z => nomatch z)⟩
theorem AtF.same {C : Addr} {H H' : Hp} {p : Addr} {x0 : List Int} {x1 : List Int} (h : AtF C H p x0 x1) (s : Same H H') : AtF C H' p x0 x1 := h.ext (extN_of s)
theorem AtF.ins {C : Addr} {H : Hp} {p : Addr} {x0 : List Int} {x1 : List Int} (h : AtF C H p x0 x1) : ∃ dx fs, H p = some (.ins C dx fs) := let ⟨dx, t0, t1, h, e0, e1⟩ := h; ⟨dx, _, h⟩
def spIF (C : Addr) : Sp := fun vs H Q _ => ∃ (p dx a0 a1 : Nat) (x0 : List Int) (x1 : List Int), vs = [.ref p, .ref a0, .ref a1] ∧ H p = some (.ins C dx []) ∧ (H a0 = some (.lst (x0.map V.int)) ∨ H a0 = some (.tup (x0.map V.int))) ∧ (H a1 = some (.lst (x1.map V.int)) ∨ H a1 = some (.tup (x1.map V.int))) ∧ ∀ (H' : Hp), (∀ b o, H b = some o → b ≠ p → H' b = some o) → AtF C H' p x0 x1 → Q .non H'
theorem ok_iF (T : Tx K mg A) : FnOk P w K mg base CX0 1 A.f_f___init__ A.d_f___init__ ["self", "taken", "waiting"] (spIF A.CF) := by
  refine T.F_f___init__.ok sc_f___init__ (fun vs H Q E h => ?_) (fun cdv B outer s H vs Q E hr h => ?_)
  · obtain ⟨p, dx, a0, a1, x0, x1, rfl, _⟩ := h
    rfl
  · obtain ⟨p, dx, a0, a1, x0, x1, rfl, hp, ha0, ha1, q⟩ := h
    refine ⟨_, (pss_cons (ps_fld (pv 0) (pe_callTy (r := rTupU) call_tupU (by rfl) T.g_tuple (by decide +kernel) (pa_cons (pv 1) pa_nil)) rfl)
      (pss_one (ps_fld (pv 0) (pe_callTy (r := rTupU) call_tupU (by rfl) T.g_tuple (by decide +kernel) (pa_cons (pv 2) pa_nil)) rfl))), ?_⟩
    have fr : ∀ b o, H b = some o → b ≠ p → H b = some o := fun b o e _ => e
    refine ⟨_, rfl, a0, _, rfl, ha0, fun t0 G0 s0 e0 => ?_⟩
    have hp := s0 _ _ hp
    have fr : ∀ b o, H b = some o → b ≠ p → G0 b = some o := fun b o e n => s0 _ _ (fr b o e n)
    have ha1 := ha1.imp (fun z => s0 _ _ z) (fun z => s0 _ _ z)
    refine ⟨_, rfl, p, A.CF, dx, _, rfl, hp, T.cTF, T.fTaken, (by show 0 < 1000; decide), ?_⟩
    have fr : ∀ b o, H b = some o → b ≠ p → (upd G0 p (.ins A.CF dx (putF "taken" (.ref t0) ([])))) b = some o := fun b o e n => by rw [upd_ne n]; exact fr b o e n
    have e0 : (upd G0 p (.ins A.CF dx (putF "taken" (.ref t0) ([])))) t0 = _ := (upd_ne (ne_of e0 hp (by intro z; cases z))).trans e0
    have ha1 := ha1.imp (fun z => (upd_ne (o := .ins A.CF dx (putF "taken" (.ref t0) ([]))) (ne_of z hp (by intro z; cases z))).trans z) (fun z => (upd_ne (o := .ins A.CF dx (putF "taken" (.ref t0) ([]))) (ne_of z hp (by intro z; cases z))).trans z)
    have hp : (upd G0 p (.ins A.CF dx (putF "taken" (.ref t0) ([])))) p = _ := upd_same
    generalize upd G0 p (.ins A.CF dx (putF "taken" (.ref t0) ([]))) = U0 at fr hp e0 ha1
    refine ⟨_, rfl, a1, _, rfl, ha1, fun t1 G1 s1 e1 => ?_⟩
    have hp := s1 _ _ hp
    have fr : ∀ b o, H b = some o → b ≠ p → G1 b = some o := fun b o e n => s1 _ _ (fr b o e n)
    have e0 := s1 _ _ e0
    refine ⟨_, rfl, p, A.CF, dx, _, rfl, hp, T.cTF, T.fWait, (by show 1 < 1000; decide), ?_⟩
    have fr : ∀ b o, H b = some o → b ≠ p → (upd G1 p (.ins A.CF dx (putF "waiting" (.ref t1) (putF "taken" (.ref t0) ([]))))) b = some o := fun b o e n => by rw [upd_ne n]; exact fr b o e n
    have e0 : (upd G1 p (.ins A.CF dx (putF "waiting" (.ref t1) (putF "taken" (.ref t0) ([]))))) t0 = _ := (upd_ne (ne_of e0 hp (by intro z; cases z))).trans e0
    have e1 : (upd G1 p (.ins A.CF dx (putF "waiting" (.ref t1) (putF "taken" (.ref t0) ([]))))) t1 = _ := (upd_ne (ne_of e1 hp (by intro z; cases z))).trans e1
    have hp : (upd G1 p (.ins A.CF dx (putF "waiting" (.ref t1) (putF "taken" (.ref t0) ([]))))) p = _ := upd_same
    exact q _ fr ⟨dx, t0, t1, hp, e0, e1⟩
theorem b_iF (T : Tx K mg A) : L2.Binds K A.d_f___init__ ["self", "taken", "waiting"] [] := T.F_f___init__.binds fun _ _ _ _ _ _ us hl => match us, hl with | [_, _, _], _ => rfl
def spEF (K : PySem.W.Frag) (C : Addr) : Sp := fun vs H Q _ => ∃ (o : Addr) (y : V) (x0 : List Int) (x1 : List Int), vs = [.ref o, y] ∧ AtF C H o x0 x1 ∧ ((∃ (b : Addr) (y0 : List Int) (y1 : List Int), y = .ref b ∧ AtF C H b y0 y1 ∧ Q (.bl (decide (x0 = y0 ∧ x1 = y1))) H) ∨
  (∃ u, TyX K H y u ∧ PySem.W.kitOne K u (.ref C) = some false ∧ Q (.bl false) H))
theorem ok_eF (T : Tx K mg A) : FnOk P w K mg base CX0 1 A.f_f___eq__ A.d_f___eq__ ["self", "other"] (spEF K A.CF) := by
  refine T.F_f___eq__.ok sc_f___eq__ (fun vs H Q E h => ?_) (fun cdv B outer s H vs Q E hr h => ?_)
  · obtain ⟨o, y, x0, x1, rfl, _⟩ := h
    rfl
  · obtain ⟨o, y, x0, x1, rfl, ⟨dx, t0, t1, g, e0, e1⟩, h⟩ := h
    have hu := hr.units
    refine ⟨_, (pss_one (ps_ret (pe_and (pe_callB (r := rIsi K) call_isi (by rfl) T.g_isinstance (by decide +kernel) (pa_cons (pv 1) (pa_cons (pe_glob (v := .ref A.CF) (by rfl) T.mCF (relR _)) pa_nil))) (pe_and (pe_cmpR (op_eqD hu) (pe_fld (pv 0) rfl) (pe_fld (pv 1) rfl) (nomark _)) (pe_one (pe_cmpR (op_eqD hu) (pe_fld (pv 0) rfl) (pe_fld (pv 1) rfl) (nomark _))))))), ?_⟩
    rcases h with ⟨b, y0, y1, rfl, ⟨dy, u0, u1, k, f0, f1⟩, q⟩ | ⟨u, ty, kt, q⟩
    · refine ⟨_, rfl, _, _, .ref A.CF, _, true, rfl, .own A.CF, .base (.ins k T.cTF T.kaF T.knF T.ktkF T.kmF), (by unfold PySem.W.kitOne; rw [if_pos (by simp)]), true, rfl, iteT ?_⟩
      refine ⟨_, rfl, o, A.CF, dx, _, _, rfl, g, T.cTF, T.fTaken, fdF_taken _ _, _, rfl, b, A.CF, dy, _, _, rfl, k, T.cTF, T.fTaken, fdF_taken _ _, _, _, ints_tup K e0, ints_tup K f0, ints_shT _, ints_shT _, _, rfl, ?_⟩
      rw [ints_eqv]
      by_cases h0 : x0 = y0
      case neg =>
        rw [decide_eq_false h0]
        rw [decide_eq_false (show ¬ (x0 = y0 ∧ x1 = y1) from fun z => h0 (by simp only [z]))] at q
        exact iteF q
      rw [decide_eq_true h0]
      refine iteT ?_
      refine ⟨_, rfl, o, A.CF, dx, _, _, rfl, g, T.cTF, T.fWait, fdF_waiting _ _, _, rfl, b, A.CF, dy, _, _, rfl, k, T.cTF, T.fWait, fdF_waiting _ _, _, _, ints_tup K e1, ints_tup K f1, ints_shT _, ints_shT _, ?_⟩
      rw [ints_eqv]
      have ed : decide (x0 = y0 ∧ x1 = y1) = decide (x1 = y1) := by simp [h0]
      rw [ed] at q
      exact q
    · exact ⟨_, rfl, _, _, u, _, false, rfl, .own A.CF, ty, kt, false, rfl, iteF q⟩
theorem b_eF (T : Tx K mg A) : L2.Binds K A.d_f___eq__ ["self", "other"] [] := T.F_f___eq__.binds fun _ _ _ _ _ _ us hl => match us, hl with | [_, _], _ => rfl

end
end Tw

set_option Elab.async false
set_option linter.all false
set_option maxRecDepth 100000
set_option maxHeartbeats 2000000
namespace Tw
open PySem PySem.Spec PyProof.Rows L2
section
variable {P : Program} {w : World} {K : PySem.W.Frag} {mg : Str → Option Value} {base : Heap} {A : Ad}
open LamX (ExtN Tabs TabS)
def keyAt (ks : List Int) (p : Nat) : Int := ks.getD p 0
def HeapL (n w : Nat) (ks : List Int) : Prop := ∀ c, 1 ≤ c → c < n → keyAt ks ((c - 1) / w) ≤ keyAt ks c
/-- the children as the law looks for them -/
def kidL (n w i : Nat) : List Nat := ((List.range (n - 1)).filter fun j => decide (j / w = i)).map (· + 1)
theorem sorted_one {xs ys : List Int} (hp : xs.Perm ys) (h1 : xs.Pairwise (· ≤ ·)) (h2 : ys.Pairwise (· ≤ ·)) : xs = ys := List.Perm.eq_of_pairwise (fun x y _ _ h1 h2 => Int.le_antisymm h1 h2) h1 h2 hp
end
end Tw

set_option Elab.async false
set_option linter.all false
set_option maxRecDepth 100000
set_option maxHeartbeats 2000000
namespace Tw
open PySem PySem.Spec PyProof.Rows L2
section
variable {P : Program} {w : World} {K : PySem.W.Frag} {mg : Str → Option Value} {base : Heap} {A : Ad}
open LamX (ExtN Tabs TabS)
/-! the walk by the least keys -/
theorem mem_kidL {n w i c : Nat} : c ∈ kidL n w i ↔ 0 < c ∧ c < n ∧ (c - 1) / w = i := by
  unfold kidL
  rw [List.mem_map]
  refine ⟨fun ⟨j, hj, e⟩ => ?_, fun ⟨h0, hn, h⟩ => ⟨c - 1, ?_, by omega⟩⟩
  · obtain ⟨h1, h2⟩ := List.mem_filter.mp hj
    have h1 := List.mem_range.mp h1
    have h2 := of_decide_eq_true h2
    subst e
    exact ⟨by omega, by omega, by rw [Nat.add_sub_cancel]; exact h2⟩
  · exact List.mem_filter.mpr ⟨List.mem_range.mpr (by omega), decide_eq_true h⟩
theorem nodup_kidL (n w i : Nat) : (kidL n w i).Nodup := by
  unfold kidL
  exact List.pairwise_map.mpr (List.Pairwise.imp (fun h z => h (by omega)) (List.nodup_range.filter _))
theorem kid_law : ∀ n, n < 13 → ∀ w, w < 5 → ∀ i, i < n → 1 ≤ w → ((List.range w).map fun j => w * i + 1 + j).filter (fun c => decide (c < n)) = kidL n w i := by decide +kernel
def leP (ks : List Int) (p q : Nat) : Prop := keyAt ks p < keyAt ks q ∨ (keyAt ks p = keyAt ks q ∧ p ≤ q)
def IsBest (ks : List Int) (l : List Nat) (b : Nat) : Prop := b ∈ l ∧ ∀ p ∈ l, leP ks b p
theorem best_one {ks : List Int} {l : List Nat} {a b : Nat} (ha : IsBest ks l a) (hb : IsBest ks l b) : a = b := by
  have h1 := ha.2 b hb.1
  have h2 := hb.2 a ha.1
  unfold leP at h1 h2
  omega
def aheadB (ks : List Int) (p q : Nat) : Bool := decide (keyAt ks p < keyAt ks q ∨ (keyAt ks p = keyAt ks q ∧ p < q))
def bestF (ks : List Int) (b : Nat) (l : List Nat) : Nat := l.foldl (fun b p => if aheadB ks p b = true then p else b) b
def bestL (ks : List Int) (l : List Nat) : Nat := bestF ks (l.getD 0 0) l
theorem bestF_ok (ks : List Int) : ∀ (l : List Nat) (b : Nat), (bestF ks b l = b ∨ bestF ks b l ∈ l) ∧ leP ks (bestF ks b l) b ∧ ∀ p ∈ l, leP ks (bestF ks b l) p
  | [], b => ⟨.inl rfl, .inr ⟨rfl, Nat.le_refl _⟩, fun p hp => (nomatch hp)⟩
  | p :: l, b => by
    have e : bestF ks b (p :: l) = bestF ks (if aheadB ks p b = true then p else b) l := rfl
    rw [e]
    by_cases h : keyAt ks p < keyAt ks b ∨ (keyAt ks p = keyAt ks b ∧ p < b)
    · rw [if_pos (show aheadB ks p b = true from decide_eq_true h)]
      obtain ⟨h1, h2, h3⟩ := bestF_ok ks l p
      refine ⟨.inr (h1.elim (fun z => by rw [z]; exact List.mem_cons_self) (List.mem_cons_of_mem _)), ?_, fun q hq => ?_⟩
      · unfold leP at h2 ⊢
        omega
      · rcases List.mem_cons.mp hq with rfl | hq
        · exact h2
        · exact h3 q hq
    · rw [if_neg (show ¬ aheadB ks p b = true from fun z => h (of_decide_eq_true z))]
      obtain ⟨h1, h2, h3⟩ := bestF_ok ks l b
      refine ⟨h1.imp id (List.mem_cons_of_mem _), h2, fun q hq => ?_⟩
      rcases List.mem_cons.mp hq with rfl | hq
      · unfold leP at h2 ⊢
        omega
      · exact h3 q hq
theorem bestL_ok {ks : List Int} {l : List Nat} (h : l ≠ []) : IsBest ks l (bestL ks l) := by
  match l, h with
  | a :: l, _ =>
    obtain ⟨h1, h2, h3⟩ := bestF_ok ks (a :: l) a
    exact ⟨h1.elim (fun z => by show bestF ks a (a :: l) ∈ _; rw [z]; exact List.mem_cons_self) id, h3⟩
def wkL (n w : Nat) (g W : List Nat) : List Nat := if g = [] then W else W ++ kidL n w (g.getD (g.length - 1) 0)
def stF (n w : Nat) (ks : List Int) : Nat → List Nat × List Nat
  | 0 => ([], (List.range n).take 1)
  | k + 1 => ((stF n w ks k).1 ++ [bestL ks (wkL n w (stF n w ks k).1 (stF n w ks k).2)], (wkL n w (stF n w ks k).1 (stF n w ks k).2).erase (bestL ks (wkL n w (stF n w ks k).1 (stF n w ks k).2)))
structure FrI (n w : Nat) (ks : List Int) (k : Nat) (g W : List Nat) : Prop where
  len : g.length = k
  nd : g.Nodup
  lt : ∀ p ∈ g, p < n
  up : ∀ p ∈ g, p = 0 ∨ (p - 1) / w ∈ g
  wnd : W.Nodup
  mem : ∀ p, p ∈ W ↔ p < n ∧ p ∉ g ∧ (p = 0 ∨ (p - 1) / w ∈ g)
  le : ∀ p ∈ g, ∀ q, q < n → q ∉ g → keyAt ks p ≤ keyAt ks q
theorem FrI.low {n w k : Nat} {ks : List Int} {g W : List Nat} (I : FrI n w ks k g W) (hh : HeapL n w ks) : ∀ q, q < n → q ∉ g → ∃ p ∈ W, p ≤ q ∧ keyAt ks p ≤ keyAt ks q := by
  intro q
  induction q using Nat.strongRecOn with
  | _ q ih =>
    intro hq hg
    by_cases h : q = 0 ∨ (q - 1) / w ∈ g
    · exact ⟨q, (I.mem q).mpr ⟨hq, hg, h⟩, Nat.le_refl _, Int.le_refl _⟩
    · have h0 : q ≠ 0 := fun z => h (.inl z)
      have hp : (q - 1) / w < q := Nat.lt_of_le_of_lt (Nat.div_le_self _ _) (by omega)
      obtain ⟨p, h1, h2, h3⟩ := ih _ hp (by omega) (fun z => h (.inr z))
      have := hh q (by omega) hq
      exact ⟨p, h1, by omega, by omega⟩
theorem len_le_of_sub : ∀ {a b : List Nat}, a.Nodup → (∀ x ∈ a, x ∈ b) → a.length ≤ b.length
  | [], b, _, _ => Nat.zero_le _
  | x :: a, b, hd, hs => by
    have hd := List.nodup_cons.mp hd
    have hx := hs x List.mem_cons_self
    have := len_le_of_sub (a := a) (b := b.erase x) hd.2 fun y hy => (List.mem_erase_of_ne (fun z => hd.1 (by rw [← z]; exact hy))).mpr (hs y (List.mem_cons_of_mem _ hy))
    rw [List.length_erase_of_mem hx] at this
    have := List.length_pos_of_mem hx
    rw [List.length_cons]
    omega
theorem FrI.ne {n w k : Nat} {ks : List Int} {g W : List Nat} (I : FrI n w ks k g W) (hh : HeapL n w ks) (hk : k < n) : W ≠ [] := by
  intro z
  have : ∀ q ∈ List.range n, q ∈ g := fun q hq => by
    refine Classical.byContradiction fun hg => ?_
    obtain ⟨p, hp, _⟩ := I.low hh q (List.mem_range.mp hq) hg
    rw [z] at hp
    cases hp
  have := len_le_of_sub List.nodup_range this
  rw [List.length_range, I.len] at this
  omega
theorem last_snoc (l : List Nat) (a : Nat) : (l ++ [a]).getD ((l ++ [a]).length - 1) 0 = a := by
  rw [List.length_append, List.length_singleton, Nat.add_sub_cancel, List.getD_eq_getElem?_getD, List.getElem?_append_right (Nat.le_refl _), Nat.sub_self]
  rfl
theorem FrI.step {n w k : Nat} {ks : List Int} {g W : List Nat} (I : FrI n w ks k g W) (hw : 1 ≤ w) (hh : HeapL n w ks) {b : Nat} (hb : IsBest ks W b) : FrI n w ks (k + 1) (g ++ [b]) (W.erase b ++ kidL n w b) := by
  obtain ⟨hbn, hbg, hbu⟩ := (I.mem b).mp hb.1
  have par : ∀ p, 0 < p → (p - 1) / w < p := fun p hp => Nat.lt_of_le_of_lt (Nat.div_le_self _ _) (by omega)
  refine ⟨by rw [List.length_append, List.length_singleton, I.len], ?_, ?_, ?_, ?_, ?_, ?_⟩
  · exact List.nodup_append.mpr ⟨I.nd, List.nodup_cons.mpr ⟨fun z => (nomatch z), List.nodup_nil⟩, fun x hx y hy z => hbg (by rw [← List.mem_singleton.mp hy, ← z]; exact hx)⟩
  · intro p hp
    rcases List.mem_append.mp hp with hp | hp
    · exact I.lt p hp
    · rw [List.mem_singleton.mp hp]
      exact hbn
  · intro p hp
    rcases List.mem_append.mp hp with hp | hp
    · exact (I.up p hp).imp id (List.mem_append_left _)
    · rw [List.mem_singleton.mp hp]
      exact hbu.imp id (List.mem_append_left _)
  · refine List.nodup_append.mpr ⟨I.wnd.erase _, nodup_kidL n w b, fun x hx y hy z => ?_⟩
    subst z
    obtain ⟨h0, h1, h2⟩ := mem_kidL.mp hy
    have hm := (I.wnd.mem_erase_iff.mp hx).2
    rcases ((I.mem x).mp hm).2.2 with h | h
    · omega
    · rw [h2] at h
      exact hbg h
  · intro p
    rw [List.mem_append, I.wnd.mem_erase_iff, mem_kidL, I.mem p, List.mem_append, List.mem_append, List.mem_singleton, List.mem_singleton]
    refine ⟨fun h => ?_, fun ⟨h1, h2, h3⟩ => ?_⟩
    · rcases h with ⟨h1, h2, h3, h4⟩ | ⟨h1, h2, h3⟩
      · exact ⟨h2, fun z => z.elim h3 h1, h4.imp id .inl⟩
      · refine ⟨h2, fun z => ?_, .inr (.inr h3)⟩
        rcases z with z | z
        · rcases I.up p z with h | h
          · omega
          · rw [h3] at h
            exact hbg h
        · have := par p h1
          omega
    · have hp : p ∉ g := fun z => h2 (.inl z)
      have hpb : p ≠ b := fun z => h2 (.inr z)
      rcases h3 with h | h | h
      · exact .inl ⟨hpb, h1, hp, .inl h⟩
      · exact .inl ⟨hpb, h1, hp, .inr h⟩
      · by_cases h0 : p = 0
        · exact .inl ⟨hpb, h1, hp, .inl h0⟩
        · exact .inr ⟨by omega, h1, h⟩
  · intro p hp q hq hqg
    have hq1 : q ∉ g := fun z => hqg (List.mem_append_left _ z)
    rcases List.mem_append.mp hp with hp | hp
    · exact I.le p hp q hq hq1
    · rw [List.mem_singleton.mp hp]
      obtain ⟨r, h1, h2, h3⟩ := I.low hh q hq hq1
      have := hb.2 r h1
      unfold leP at this
      omega
theorem FrI.start (n w : Nat) (ks : List Int) : FrI n w ks 0 [] ((List.range n).take 1) := by
  have e : (List.range n).take 1 = if n = 0 then [] else [0] := by
    cases n with
    | zero => rfl
    | succ m => rw [List.range_succ_eq_map, if_neg (by omega)]; rfl
  refine ⟨rfl, List.nodup_nil, fun p hp => (nomatch hp), fun p hp => (nomatch hp), ?_, fun p => ?_, fun p hp => (nomatch hp)⟩
  · rw [e]
    split <;> simp
  · rw [e]
    by_cases h : n = 0
    · rw [if_pos h]
      exact ⟨fun z => (nomatch z), fun z => by omega⟩
    · rw [if_neg h, List.mem_singleton]
      exact ⟨fun z => ⟨by omega, fun z => (nomatch z), .inl z⟩, fun z => z.2.2.elim id fun z => (nomatch z)⟩
theorem fr_ok {n w : Nat} {ks : List Int} (hw : 1 ≤ w) (hh : HeapL n w ks) : ∀ k, k ≤ n → FrI n w ks k (stF n w ks k).1 (wkL n w (stF n w ks k).1 (stF n w ks k).2)
  | 0, _ => FrI.start n w ks
  | k + 1, hk => by
    have I := fr_ok hw hh k (by omega)
    have J := I.step hw hh (bestL_ok (I.ne hh (by omega)))
    have e : ∀ (g W : List Nat) (b : Nat), wkL n w (g ++ [b]) W = W ++ kidL n w b := fun g W b => by
      unfold wkL
      rw [if_neg (fun z => by cases g <;> cases z), last_snoc]
    show FrI n w ks (k + 1) ((stF n w ks k).1 ++ [_]) (wkL n w ((stF n w ks k).1 ++ [_]) _)
    rw [e]
    exact J
theorem fr_w {n w k : Nat} {ks : List Int} (hw : 1 ≤ w) (hh : HeapL n w ks) (hk : k < n) : IsBest ks (wkL n w (stF n w ks k).1 (stF n w ks k).2) (bestL ks (wkL n w (stF n w ks k).1 (stF n w ks k).2)) := bestL_ok ((fr_ok hw hh k (Nat.le_of_lt hk)).ne hh hk)
/-- the keys of the places that are taken, and the least keys -/
theorem taken_least {n w k : Nat} {ks s t : List Int} (hw : 1 ≤ w) (hl : ks.length = n) (hh : HeapL n w ks) (hk : k ≤ n) (h1 : s.Perm ks) (h2 : s.Pairwise (· ≤ ·)) (h3 : t.Perm ((stF n w ks k).1.map (keyAt ks))) (h4 : t.Pairwise (· ≤ ·)) : t = s.take k := by
  have I := fr_ok hw hh k hk
  generalize (stF n w ks k).1 = g at I h3
  generalize wkL n w _ _ = W at I
  obtain ⟨r, er⟩ : ∃ r, r = (List.range n).filter fun p => decide (p ∉ g) := ⟨_, rfl⟩
  have pm : (g ++ r).Perm (List.range n) := by
    refine (List.perm_ext_iff_of_nodup (List.nodup_append.mpr ⟨I.nd, by rw [er]; exact List.nodup_range.filter _, fun x hx y hy z => ?_⟩) List.nodup_range).mpr fun x => ?_
    · subst z
      rw [er] at hy
      exact of_decide_eq_true (List.mem_filter.mp hy).2 hx
    · rw [List.mem_append, er, List.mem_filter, List.mem_range]
      refine ⟨fun h => h.elim (I.lt x) (fun h => h.1), fun h => ?_⟩
      by_cases hg : x ∈ g
      · exact .inl hg
      · exact .inr ⟨h, decide_eq_true hg⟩
  have kse : (List.range n).map (keyAt ks) = ks := by
    refine List.ext_getElem (by rw [List.length_map, List.length_range, hl]) fun i a b => ?_
    rw [List.getElem_map, List.getElem_range]
    unfold keyAt
    rw [List.getD_eq_getElem?_getD, List.getElem?_eq_getElem b]
    rfl
  obtain ⟨u, eu⟩ : ∃ u, u = (r.map (keyAt ks)).mergeSort fun a b => decide (a ≤ b) := ⟨_, rfl⟩
  have hu1 : u.Perm (r.map (keyAt ks)) := by rw [eu]; exact List.mergeSort_perm _ _
  have hu2 : u.Pairwise (· ≤ ·) := by
    rw [eu]
    refine List.Pairwise.imp (fun h => of_decide_eq_true h) (List.pairwise_mergeSort (le := fun (a b : Int) => decide (a ≤ b)) ?_ ?_ _)
    · intro a b c h1 h2
      have := of_decide_eq_true h1
      have := of_decide_eq_true h2
      exact decide_eq_true (by omega)
    · intro a b
      by_cases h : a ≤ b
      · simp [h]
      · simp [show b ≤ a by omega]
  have e : s = t ++ u := by
    refine sorted_one ?_ h2 (List.pairwise_append.mpr ⟨h4, hu2, fun a ha b hb => ?_⟩)
    · refine h1.trans ?_
      rw [← kse]
      refine (pm.symm.map _).trans ?_
      rw [List.map_append]
      exact (h3.symm.append hu1.symm)
    · obtain ⟨p, hp, rfl⟩ := List.mem_map.mp (h3.mem_iff.mp ha)
      obtain ⟨q, hq, rfl⟩ := List.mem_map.mp (hu1.mem_iff.mp hb)
      rw [er] at hq
      obtain ⟨hq1, hq2⟩ := List.mem_filter.mp hq
      exact I.le p hp q (List.mem_range.mp hq1) (of_decide_eq_true hq2)
  have hlt : t.length = k := by rw [h3.length_eq, List.length_map, I.len]
  rw [e, ← hlt, List.take_left']
  rfl

end
end Tw

set_option Elab.async false
set_option linter.all false
set_option maxRecDepth 100000
set_option maxHeartbeats 2000000
namespace Tw
open PySem PySem.Spec PyProof.Rows L2
section
variable {P : Program} {w : World} {K : PySem.W.Frag} {mg : Str → Option Value} {base : Heap} {A : Ad}
open LamX (ExtN Tabs TabS)
/-- a tuple of keys at an address -/
def RowAt (H : Hp) (v : V) (l : List Int) : Prop := ∃ t, v = .ref t ∧ H t = some (.tup (l.map V.int))
abbrev RowsAt (H : Hp) : List V → List (List Int) → Prop := Paired (RowAt H)
structure AccR (H1 : Hp) (D : Addr) (ls : List (List Int)) (H : Hp) : Prop where
  s : Same H1 H
  n : H1 D = Option.none
  a : ∃ xs, H D = some (.lst xs) ∧ RowsAt H xs ls
theorem AccR.start {H1 : Hp} {D : Addr} (n : H1 D = none) : AccR H1 D [] (upd H1 D (.lst [])) := ⟨Same.up n, n, [], upd_same, .nil⟩
/-- a list or a tuple -/
def Sq (H : Hp) (a : Addr) (xs : List V) : Prop := H a = some (.lst xs) ∨ H a = some (.tup xs)
def RowIn (H : Hp) (a : Addr) (ns : List Int) : Prop := Sq H a (ns.map V.int) ∧ ns.length ≤ 12 ∧ (∀ n ∈ ns, -1000000000 ≤ n ∧ n ≤ 1000000000)
theorem SqT.put {H : Hp} {a D : Addr} {xs zs : List V} {o : HO} (hD : H D = some (.lst zs)) (h : SqT K H a xs) : SqT K (upd H D o) a xs := by
  rcases h with (h | ⟨o, h⟩) | h
  · exact .inl (.inl (by rw [upd_ne (ne_of h hD (by intro q; cases q))]; exact h))
  · exact .inl (.inr ⟨o, by rw [upd_ne (ne_of h hD (by intro q; cases q))]; exact h⟩)
  · exact .inr h
theorem at_last {xs : List V} (h : 0 < xs.length) : atI xs (-1) = some xs[xs.length - 1] := by
  unfold atI ixN
  rw [if_neg (by omega), if_pos (by omega), show ((-1 : Int) + (xs.length : Nat)).toNat = xs.length - 1 by omega]
  exact List.getElem?_eq_getElem (by omega)
theorem b_cc (T : Tx K mg A) : L2.Binds K A.d_check_count ["count", "many"] [] := T.F_check_count.binds fun _ _ _ _ _ _ us hl => match us, hl with | [_, _], _ => rfl
theorem b_gi (T : Tx K mg A) : L2.Binds K A.d_t___getitem__ ["self", "place"] [] := T.F_t___getitem__.binds fun _ _ _ _ _ _ us hl => match us, hl with | [_, _], _ => rfl
theorem b_hp (T : Tx K mg A) : L2.Binds K A.d_heap_of ["row", "arms"] [] := T.F_heap_of.binds fun _ _ _ _ _ _ us hl => match us, hl with | [_, _], _ => rfl
theorem b_iter (T : Tx K mg A) : L2.Binds K A.d_t___iter__ ["self"] [] := T.F_t___iter__.binds fun _ _ _ _ _ _ us hl => match us, hl with | [_], _ => rfl
theorem b_len (T : Tx K mg A) : L2.Binds K A.d_t___len__ ["self"] [] := T.F_t___len__.binds fun _ _ _ _ _ _ us hl => match us, hl with | [_], _ => rfl
theorem cut_to (xs : List V) (k : Nat) : cutV xs none (some (k : Int)) = xs.take k := by
  unfold cutV
  rw [HT.sIx_none, HT.sIx_nat, List.drop_zero, Nat.sub_zero]
  rcases Nat.le_total k xs.length with h | h
  · rw [Nat.min_eq_left h]
  · rw [Nat.min_eq_right h, List.take_length, List.take_of_length_le h]
/-- the faults of a row -/
def faultB (ns : List Int) (w p : Nat) : Bool := decide (0 < p) && decide (ns.getD p 0 < ns.getD ((p - 1) / w) 0)
def faultL (ns : List Int) (w : Nat) : List Nat := (List.range ns.length).filter (faultB ns w)
def upF : Nat → Nat → Nat → List Nat
  | 0, _, p => [p]
  | k + 1, w, p => if p = 0 then [0] else p :: upF k w ((p - 1) / w)
def upL (w p : Nat) : List Nat := upF 13 w p
def wayL (w p : Nat) : List Nat := (upL w p).reverse
theorem up_eq : ∀ w, w < 5 → ∀ p, p < 13 → 1 ≤ w → upL w p = if p = 0 then [0] else p :: upL w ((p - 1) / w) := by decide +kernel
theorem way_rec (w p : Nat) (hw : 1 ≤ w ∧ w ≤ 4) (hp : p ≤ 12) (h0 : 0 < p) : wayL w p = wayL w ((p - 1) / w) ++ [p] := by
  unfold wayL
  have e := up_eq w (by omega) p (by omega) hw.1
  rw [if_neg (by omega)] at e
  rw [e, List.reverse_cons]
theorem way_zero : ∀ w, w < 5 → 1 ≤ w → wayL w 0 = [0] := by decide +kernel
theorem no_fault {ns : List Int} {w : Nat} (hw : 1 ≤ w ∧ w ≤ 4) (hn : ns.length ≤ 12) (h : faultL ns w = []) : ∀ p, p < ns.length → ∀ q ∈ wayL w p, ns.getD q 0 ≤ ns.getD p 0 := by
  have h1 : ∀ p, p < ns.length → 0 < p → ns.getD ((p - 1) / w) 0 ≤ ns.getD p 0 := fun p hp h0 => by
    refine Int.not_lt.mp fun z => ?_
    have m : p ∈ faultL ns w := by
      unfold faultL
      refine List.mem_filter.mpr ⟨List.mem_range.mpr hp, ?_⟩
      unfold faultB
      rw [decide_eq_true h0, decide_eq_true z]
      rfl
    rw [h] at m
    cases m
  intro p
  induction p using Nat.strongRecOn with
  | _ p ih =>
    intro hp q hq
    by_cases h0 : 0 < p
    · have hlt : (p - 1) / w < p := Nat.lt_of_le_of_lt (Nat.div_le_self _ _) (by omega)
      rw [way_rec w p hw (by omega) h0] at hq
      rcases List.mem_append.mp hq with hq | hq
      · exact Int.le_trans (ih _ hlt (by omega) q hq) (h1 p hp h0)
      · rw [List.mem_singleton.mp hq]
        exact Int.le_refl _
    · obtain rfl : p = 0 := by omega
      rw [way_zero w (by omega) hw.1] at hq
      rw [List.mem_singleton.mp hq]
      exact Int.le_refl _
theorem self_sub : ∀ w, w < 5 → ∀ i, i < 13 → 1 ≤ w → i ∈ wayL w i := by decide +kernel
theorem fault_heap {n w : Nat} {ks : List Int} (hw : 1 ≤ w ∧ w ≤ 4) (hn : n ≤ 12) (hl : ks.length = n) (h : faultL ks w = []) : HeapL n w ks := fun c h1 h2 => by
  refine no_fault hw (by omega) h c (by omega) _ ?_
  rw [way_rec w c hw (by omega) h1]
  exact List.mem_append_left _ (self_sub w (by omega) _ (by have := Nat.div_le_self (c - 1) w; omega) hw.1)
theorem icut (p : List Int) (i : Nat) : cutV (p.map V.int) none (some (i : Int)) = (p.take i).map V.int := by
  unfold cutV
  rw [HT.sIx_none, HT.sIx_nat, List.drop_zero, Nat.sub_zero, List.length_map, List.map_take]
  by_cases h : i ≤ p.length
  · rw [Nat.min_eq_left h]
  · rw [List.take_of_length_le (show (p.map V.int).length ≤ min i p.length by rw [List.length_map]; omega), List.take_of_length_le (show (p.map V.int).length ≤ i by rw [List.length_map]; omega)]
theorem kb_of (T : Tx K mg A) : ∃ mv : List Value, KBn K A.d_t_of ["cls", "row", "arms"] 2 ["arms"] (fun us ws => us ++ (mv ++ ws)) (fun vs zs => vs ++ zs) := by
  obtain ⟨mv, h⟩ := T.F_t_of.kbinds0 (ps := ["cls", "row", "arms"]) 2 ["arms"] [] (fun us mv ws => us ++ (mv ++ ws)) (by simp) (by simp) (fun r1 r2 r3 => r1.append (r2.append r3))
    (fun D doc pm an cdv ct us mv ws h1 h2 h3 => by
      match us, mv, ws, h1, h2, h3 with
      | [a, b], [], [c], _, _, _ => rfl)
  exact ⟨mv, h⟩
theorem key_at {ks : List Int} {p : Nat} (h : p < ks.length) : atI (ks.map V.int) (p : Int) = some (V.int (keyAt ks p)) := by
  have e : (ks.map V.int)[p]? = some (V.int (keyAt ks p)) := by
    unfold keyAt
    rw [List.getElem?_map, List.getD_eq_getElem?_getD, List.getElem?_eq_getElem h]
    rfl
  exact atI_nat e
def wz (l : List Nat) : List Int := l.map fun i => ((i : Nat) : Int)
def vi (l : List Nat) : List V := l.map fun i => V.int (i : Nat)
theorem vi_ints (l : List Nat) : vi l = (l.map fun i => ((i : Nat) : Int)).map V.int := by unfold vi; rw [List.map_map]; rfl
theorem vi_wz (l : List Nat) : vi l = (wz l).map V.int := vi_ints l
/-- the places of a tree -/
def pl (n : Nat) : List V := (List.range n).map fun i => V.int (i : Nat)
/-- the children of a place, as the program cuts them -/
def kids (n w i : Nat) : List V := cutV (pl n) (some ((i : Int) * (w : Int) + 1)) (some ((i : Int) * (w : Int) + 1 + (w : Int)))
theorem pl_len (n : Nat) : (pl n).length = n := by unfold pl; rw [List.length_map, List.length_range]
def kidsN (n w i : Nat) : List Nat := ((List.range n).drop (min (i * w + 1) n)).take (min (i * w + 1 + w) n - min (i * w + 1) n)
theorem kids_eq (n w i : Nat) : kids n w i = vi (kidsN n w i) := by
  unfold kids cutV kidsN
  rw [pl_len, show ((i : Int) * (w : Int) + 1) = ((i * w + 1 : Nat) : Int) by push_cast; rfl, show (((i * w + 1 : Nat) : Int) + (w : Int)) = ((i * w + 1 + w : Nat) : Int) by push_cast; rfl, HT.sIx_nat, HT.sIx_nat]
  unfold vi pl
  rw [List.map_take, List.map_drop]
theorem kids_same : ∀ n, n < 13 → ∀ w, w < 5 → ∀ i, i < n → 1 ≤ w → kidsN n w i = kidL n w i := by decide +kernel
theorem kids_vi (n w i : Nat) (hn : n ≤ 12) (hw : 1 ≤ w ∧ w ≤ 4) (hi : i < n) : kids n w i = (wz (kidL n w i)).map V.int := by
  rw [kids_eq, kids_same n (by omega) w (by omega) i hi hw.1, vi_wz]
/-- what stood before an instance was made stands behind its making -/
theorem new_same {C x dx : Addr} {H H' : Hp} (nx : H x = none) (ndx : H dx = none) (k : ∀ b o, (upd (upd H dx (.own x)) x (.ins C dx [])) b = some o → b ≠ x → H' b = some o) : Same H H' := fun b o e => by
  refine k b o ?_ (ne_of_none e nx)
  rw [upd_ne (ne_of_none e nx), upd_ne (ne_of_none e ndx)]
  exact e
theorem new_up {C x dx : Addr} {H : Hp} (nx : H x = none) (ndx : H dx = none) (nex : dx ≠ x) : Same H (upd (upd H dx (.own x)) x (.ins C dx [])) :=
  (Same.up ndx).trans (Same.up (by rw [upd_ne nex.symm]; exact nx))
/-- True just for ints -/
def spIs (K : PySem.W.Frag) : Sp := fun vs H Q _ => ∃ x : V, vs = [x] ∧
  ((∃ i, x = .int i ∧ Q (.bl true) H) ∨ (∃ n b1 b2, TyX K H x (.type n) ∧ kitB n "int" = some b1 ∧ kitB n "bool" = some b2 ∧ (b1 && !b2) = false ∧ Q (.bl false) H))
theorem ok_is (T : Tx K mg A) : FnOk P w K mg base CX0 1 A.f_is_integer A.d_is_integer ["thing"] (spIs K) := by
  refine T.F_is_integer.ok sc_is_integer (fun vs H Q E h => ?_) (fun cdv B outer s H vs Q E hr h => ?_)
  · obtain ⟨x, rfl, _⟩ := h
    rfl
  · obtain ⟨x, rfl, h⟩ := h
    refine ⟨_, pss_one (ps_ret (pe_and (pe_callB call_isi (by rfl) T.g_isinstance (by decide +kernel) (pa_cons (pv 0) (pa_cons (pe_bltn (v := .ty "int") (by rfl) T.g_int (by decide +kernel) rfl) pa_nil)))
      (pe_one (pe_not (pe_callB call_isi (by rfl) T.g_isinstance (by decide +kernel) (pa_cons (pv 0) (pa_cons (pe_bltn (v := .ty "bool") (by rfl) T.g_bool (by decide +kernel) rfl) pa_nil))))))), ?_⟩
    rcases h with ⟨i, rfl, q⟩ | ⟨n, b1, b2, ty, k1, k2, hb, q⟩
    · refine ⟨_, rfl, _, _, .type "int", .type "int", true, rfl, .ty "int", .base (.int i), kit_ty (by decide +kernel), true, rfl, iteT ?_⟩
      exact ⟨_, rfl, _, _, .type "int", .type "bool", false, rfl, .ty "bool", .base (.int i), kit_ty (by decide +kernel), false, rfl, q⟩
    · refine ⟨_, rfl, _, _, .type n, .type "int", b1, rfl, .ty "int", ty, kit_ty k1, b1, rfl, ?_⟩
      cases b1 with
      | false => exact iteF q
      | true =>
        cases b2 with
        | false => cases hb
        | true => exact iteT ⟨_, rfl, _, _, .type n, .type "bool", true, rfl, .ty "bool", ty, kit_ty k2, true, rfl, q⟩
theorem b_is (T : Tx K mg A) : L2.Binds K A.d_is_integer ["thing"] [] := T.F_is_integer.binds fun _ _ _ _ _ _ us hl => match us, hl with | [_], _ => rfl
/-- True just for ints within; other things by their class -/
def spII (K : PySem.W.Frag) : Sp := fun vs H Q _ => ∃ (x : V) (a b : Int), vs = [x, .int a, .int b] ∧
  ((∃ i, x = .int i ∧ Q (.bl (decide (a ≤ i ∧ i ≤ b))) H) ∨ (∃ n b1 b2, TyX K H x (.type n) ∧ kitB n "int" = some b1 ∧ kitB n "bool" = some b2 ∧ (b1 && !b2) = false ∧ Q (.bl false) H))
theorem ok_ii (T : Tx K mg A) : FnOk P w K mg base CX0 2 A.f_is_integer_from A.d_is_integer_from ["thing", "least", "greatest"] (spII K) := by
  refine T.F_is_integer_from.ok sc_is_integer_from (fun vs H Q E h => ?_) (fun cdv B outer s H vs Q E hr h => ?_)
  · obtain ⟨x, a, b, rfl, _⟩ := h
    rfl
  · obtain ⟨x, a, b, rfl, h⟩ := h
    refine ⟨_, pss_one (ps_ret (pe_and (pe_call (ok_is T) hr (by rfl) T.m_is_integer T.F_is_integer.kp (b_is T) .nil pass0 (pa_cons (pv 0) pa_nil))
        (pe_one (pe_chain op_le op_le (pv 1) (pv 0) (pv 2))))), ?_⟩
    rcases h with ⟨i, rfl, q⟩ | h
    · refine ⟨_, rfl, _, rfl, .inl ⟨i, rfl, true, rfl, iteT ?_⟩⟩
      refine ⟨_, rfl, _, rfl, _, _, rfl, rfl, _, rfl, ?_⟩
      by_cases h1 : a ≤ i
      · rw [decide_eq_true h1]
        refine iteT ⟨_, rfl, _, _, rfl, rfl, ?_⟩
        have e : decide (a ≤ i ∧ i ≤ b) = decide (i ≤ b) := by simp [h1]
        rw [e] at q
        exact q
      · rw [decide_eq_false h1]
        have e : decide (a ≤ i ∧ i ≤ b) = false := by simp [h1]
        rw [e] at q
        exact iteF q
    · obtain ⟨n, b1, b2, ty, k1, k2, hb, q⟩ := h
      exact ⟨_, rfl, _, rfl, .inr ⟨n, b1, b2, ty, k1, k2, hb, false, rfl, iteF q⟩⟩
theorem b_ii (T : Tx K mg A) : L2.Binds K A.d_is_integer_from ["thing", "least", "greatest"] [] := T.F_is_integer_from.binds fun _ _ _ _ _ _ us hl => match us, hl with | [_, _, _], _ => rfl
def spCc : Sp := fun vs H Q _ => ∃ i n : Nat, vs = [.int i, .int n] ∧ i ≤ n ∧ Q .non H
theorem ok_cc (T : Tx K mg A) : FnOk P w K mg base CX0 3 A.f_check_count A.d_check_count ["count", "many"] spCc := by
  refine T.F_check_count.ok sc_check_count (fun vs H Q E h => ?_) (fun cdv B outer s H vs Q E hr h => ?_)
  · obtain ⟨i, n, rfl, _⟩ := h
    rfl
  · obtain ⟨i, n, rfl, hi, q⟩ := h
    refine ⟨_, (pss_one (ps_if (pt_not (pt_val (pe_call (ok_ii T) (hr.mono (by decide)) (by rfl) T.m_is_integer_from T.F_is_integer_from.kp (b_ii T) .nil pass0 (pa_cons (pv 0) (pa_cons pe_int (pa_cons (pv 1) pa_nil)))))) (pss_one ps_never) pss_nil)), ?_⟩
    refine ⟨_, rfl, _, rfl, _, _, _, rfl, .inl ⟨i, rfl, _, rfl, ?_⟩⟩
    rw [decide_eq_true (show (0 : Int) ≤ (i : Nat) ∧ ((i : Nat) : Int) ≤ (n : Nat) by omega)]
    exact iteF q
def spCp : Sp := fun vs H Q _ => ∃ i n : Int, vs = [.int i, .int n] ∧ (0 ≤ i ∧ i < n) ∧ Q .non H
theorem ok_cp (T : Tx K mg A) : FnOk P w K mg base CX0 3 A.f_check_place A.d_check_place ["place", "many"] spCp := by
  refine T.F_check_place.ok sc_check_place (fun vs H Q E h => ?_) (fun cdv B outer s H vs Q E hr h => ?_)
  · obtain ⟨i, n, rfl, _⟩ := h
    rfl
  · obtain ⟨i, n, rfl, hi, q⟩ := h
    refine ⟨_, pss_one (ps_if (pt_not (pt_val (pe_call (ok_ii T) hr (by rfl) T.m_is_integer_from T.F_is_integer_from.kp (b_ii T) .nil pass0
      (pa_cons (pv 0) (pa_cons pe_int (pa_cons (pe_op op_sub (pv 1) pe_int) pa_nil)))))) (pss_one ps_never) pss_nil), ?_⟩
    refine ⟨_, rfl, _, rfl, _, _, rfl, rfl, _, _, _, rfl, .inl ⟨i, rfl, _, rfl, ?_⟩⟩
    rw [decide_eq_true (show 0 ≤ i ∧ i ≤ n - 1 by omega)]
    exact iteF q
theorem b_cp (T : Tx K mg A) : L2.Binds K A.d_check_place ["place", "many"] [] := T.F_check_place.binds fun _ _ _ _ _ _ us hl => match us, hl with | [_, _], _ => rfl
theorem n1 : ¬ (("many" : Str) = "arms") := by decide +kernel
theorem n2 : ¬ (("many" : Str) = "_places") := by decide +kernel
/-- its attributes -/
def tf (n w t : Nat) : List (Str × V) := putF "_places" (.ref t) (putF "arms" (.int w) (putF "many" (.int n) []))
theorem tf_many (n w t : Nat) : (tf n w t).lookup ("many" : Str) = some (.int n) := by
  unfold tf
  rw [lookup_putF, if_neg n2, lookup_putF, if_neg n1, lookup_putF, if_pos rfl]
theorem n3 : ¬ (("arms" : Str) = "_places") := by decide +kernel
theorem tf_arms (n w t : Nat) : (tf n w t).lookup ("arms" : Str) = some (.int w) := by
  unfold tf
  rw [lookup_putF, if_neg n3, lookup_putF, if_pos rfl]
theorem tf_pl (n w t : Nat) : (tf n w t).lookup ("_places" : Str) = some (.ref t) := by
  unfold tf
  rw [lookup_putF, if_pos rfl]
/-- a tree of n places and w arms stands at p -/
structure TreeAt (C : Addr) (H : Hp) (p n w : Nat) : Prop where
  ob : ∃ dx t, H p = some (.ins C dx (tf n w t)) ∧ H t = some (.tup (pl n))
  hn : n ≤ 12
  hw : 1 ≤ w ∧ w ≤ 4
def spGi (C : Addr) : Sp := fun vs H Q _ => ∃ (p n w i : Nat), vs = [.ref p, .int i] ∧ TreeAt C H p n w ∧ i < n ∧ ∀ H' q, Same H H' → H' q = some (.tup (kids n w i)) → Q (.ref q) H'
theorem ok_gi (T : Tx K mg A) : FnOk P w K mg base CX0 4 A.f_t___getitem__ A.d_t___getitem__ ["self", "place"] (spGi A.C) := by
  refine T.F_t___getitem__.ok sc_t___getitem__ (fun vs H Q E h => ?_) (fun cdv B outer s H vs Q E hr h => ?_)
  · obtain ⟨p, n, w, i, rfl, _⟩ := h
    rfl
  · obtain ⟨p, n, w, i, rfl, t, hi, q⟩ := h
    obtain ⟨dx, l, h1, h2⟩ := t.ob
    refine ⟨_, pss_cons (ps_expr (pe_call (ok_cp T) hr (by rfl) T.m_check_place T.F_check_place.kp (b_cp T) .nil pass0 (pa_cons (pv 1) (pa_cons (pe_fld (pv 0) rfl) pa_nil))))
      (pss_cons (ps_set (i := 2) sc_t___getitem__.nd rfl (Or.inl rfl) (pe_op op_add (pe_op op_mul (pv 1) (pe_fld (pv 0) rfl)) pe_int))
      (pss_one (ps_ret (pe_slice sl_tup (pe_fld (pv 0) rfl) (po_some (pv 2)) (po_some (pe_op op_add (pv 2) (pe_fld (pv 0) rfl))))))), ?_⟩
    refine ⟨_, rfl, _, rfl, p, A.C, dx, _, _, rfl, h1, T.cT, T.nMany, tf_many _ _ _, _, _, rfl, ⟨by omega, by omega⟩, ?_⟩
    refine ⟨_, rfl, _, rfl, p, A.C, dx, _, _, rfl, h1, T.cT, T.nArms, tf_arms _ _ _, _, _, rfl, rfl, .inl ⟨by have := t.hn; omega, by have := t.hn; omega⟩, _, _, rfl, rfl, ?_⟩
    refine ⟨_, rfl, p, A.C, dx, _, _, rfl, h1, T.cT, T.nPl, tf_pl _ _ _, ?_⟩
    refine ⟨_, rfl, _, rfl, _, rfl, _, rfl, p, A.C, dx, _, _, rfl, h1, T.cT, T.nArms, tf_arms _ _ _, _, _, rfl, rfl, _, rfl, ?_⟩
    refine ⟨l, pl n, rfl, SqT.of h2, fun z => ?_, fun r hr0 => q _ r (Same.up hr0) upd_same⟩
    have z1 := z.1
    rw [pl_len, show ((i : Int) * (w : Int) + 1) = ((i * w + 1 : Nat) : Int) by push_cast; rfl, HT.sIx_nat] at z1
    omega
theorem Sq.same {H H' : Hp} {a : Addr} {xs : List V} (h : Sq H a xs) (s : Same H H') : Sq H' a xs := h.elim (fun e => .inl (s _ _ e)) fun e => .inr (s _ _ e)
theorem TreeAt.same {C : Addr} {H H' : Hp} {p n w : Nat} (h : TreeAt C H p n w) (s : Same H H') : TreeAt C H' p n w :=
  ⟨let ⟨dx, t, a, b⟩ := h.ob; ⟨dx, t, s _ _ a, s _ _ b⟩, h.hn, h.hw⟩
theorem RowIn.same {H H' : Hp} {a : Addr} {ns : List Int} (h : RowIn H a ns) (s : Same H H') : RowIn H' a ns := ⟨h.1.same s, h.2⟩
theorem b_par (T : Tx K mg A) : L2.Binds K A.d_t_parent ["self", "place"] [] := T.F_t_parent.binds fun _ _ _ _ _ _ us hl => match us, hl with | [_, _], _ => rfl
theorem tf_no (n w t : Nat) {m : Str} (h1 : ¬ m = "many") (h2 : ¬ m = "arms") (h3 : ¬ m = "_places") : (tf n w t).lookup m = none := by
  unfold tf
  rw [lookup_putF, if_neg h3, lookup_putF, if_neg h2, lookup_putF, if_neg h1]
  rfl
theorem kb_init (T : Tx K mg A) : ∃ mv : List Value, KBn K A.d_t___init__ ["self", "many", "arms"] 2 ["arms"] (fun us ws => us ++ (mv ++ ws)) (fun vs zs => vs ++ zs) := by
  obtain ⟨mv, h⟩ := T.F_t___init__.kbinds0 (ps := ["self", "many", "arms"]) 2 ["arms"] [] (fun us mv ws => us ++ (mv ++ ws)) (by simp) (by simp) (fun r1 r2 r3 => r1.append (r2.append r3))
    (fun D doc pm an cdv ct us mv ws h1 h2 h3 => by
      match us, mv, ws, h1, h2, h3 with
      | [a, b], [], [c], _, _, _ => rfl)
  exact ⟨mv, h⟩
theorem cst {x : Str} {n : Int} (h : mg x = some (.int n 0) ∨ ∃ t, mg x = some (.int n t)) : ∃ t, mg x = some (.int n t) := h.elim (fun e => ⟨0, e⟩) id
def spCa : Sp := fun vs H Q _ => ∃ i : Int, vs = [.int i] ∧ (1 ≤ i ∧ i ≤ 4) ∧ Q .non H
theorem ok_ca (T : Tx K mg A) : FnOk P w K mg base CX0 3 A.f_check_arms A.d_check_arms ["arms"] spCa := by
  refine T.F_check_arms.ok sc_check_arms (fun vs H Q E h => ?_) (fun cdv B outer s H vs Q E hr h => ?_)
  · obtain ⟨i, rfl, _⟩ := h
    rfl
  · obtain ⟨i, rfl, hi, q⟩ := h
    obtain ⟨t, hg⟩ := cst T.c_MOST_ARMS
    refine ⟨_, pss_one (ps_if (pt_not (pt_val (pe_call (ok_ii T) hr (by rfl) T.m_is_integer_from T.F_is_integer_from.kp (b_ii T) .nil pass0
      (pa_cons (pv 0) (pa_cons pe_int (pa_cons (pe_glob (by rfl) hg (relI _ _)) pa_nil)))))) (pss_one ps_never) pss_nil), ?_⟩
    refine ⟨_, rfl, _, _, _, rfl, .inl ⟨i, rfl, _, rfl, ?_⟩⟩
    rw [decide_eq_true hi]
    exact iteF q
theorem b_ca (T : Tx K mg A) : L2.Binds K A.d_check_arms ["arms"] [] := T.F_check_arms.binds fun _ _ _ _ _ _ us hl => match us, hl with | [_], _ => rfl
/-- is_key of an int -/
def spKey : Sp := fun vs H Q _ => ∃ i : Int, vs = [.int i] ∧ Q (.bl (decide (-1000000000 ≤ i ∧ i ≤ 1000000000))) H
theorem ok_key (T : Tx K mg A) : FnOk P w K mg base CX0 3 A.f_is_key A.d_is_key ["thing"] spKey := by
  refine T.F_is_key.ok sc_is_key (fun vs H Q E h => ?_) (fun cdv B outer s H vs Q E hr h => ?_)
  · obtain ⟨i, rfl, _⟩ := h
    rfl
  · obtain ⟨i, rfl, q⟩ := h
    obtain ⟨t, hg⟩ := cst T.c_GREATEST_KEY
    refine ⟨_, pss_one (ps_ret (pe_call (ok_ii T) hr (by rfl) T.m_is_integer_from T.F_is_integer_from.kp (b_ii T) .nil pass0
      (pa_cons (pv 0) (pa_cons (pe_un un_neg (pe_glob (by rfl) hg (relI _ _))) (pa_cons (pe_glob (by rfl) hg (relI _ _)) pa_nil))))), ?_⟩
    exact ⟨_, rfl, _, rfl, _, _, _, rfl, .inl ⟨i, rfl, q⟩⟩
theorem b_key (T : Tx K mg A) : L2.Binds K A.d_is_key ["thing"] [] := T.F_is_key.binds fun _ _ _ _ _ _ us hl => match us, hl with | [_], _ => rfl
theorem Sq.len {K : PySem.W.Frag} {H : Hp} {a : Addr} {xs : List V} (h : Sq H a xs) : SqL K H a xs ∨ SqT K H a xs := h.elim (fun e => .inl (SqL.of e)) fun e => .inr (SqT.of e)
/-- keys go in, a tuple of them comes out -/
def spRow (K : PySem.W.Frag) : Sp := fun vs H Q _ => ∃ (a : Addr) (ns : List Int), vs = [.ref a] ∧ Sq H a (ns.map V.int) ∧ ns.length ≤ 12 ∧ (∀ n ∈ ns, -1000000000 ≤ n ∧ n ≤ 1000000000) ∧
  ∀ H' p, Same H H' → H' p = some (.tup (ns.map V.int)) → Q (.ref p) H'
theorem ok_row (T : Tx K mg A) : FnOk P w K mg base CX0 4 A.f_row_of A.d_row_of ["row"] (spRow K) := by
  refine T.F_row_of.ok sc_row_of (fun vs H Q E h => ?_) (fun cdv B outer s H vs Q E hr h => ?_)
  · obtain ⟨a, ns, rfl, _⟩ := h
    rfl
  · obtain ⟨a, ns, rfl, ha, hl, hk, q⟩ := h
    obtain ⟨t, hg⟩ := cst T.c_MOST_PLACES
    refine ⟨_, pss_cons (ps_if (PW.pt (pw_or (pt_not (pt_val (pe_callB call_isiT (by rfl) T.g_isinstance (by decide +kernel) (pa_cons (pv 0) (pa_cons (pe_tup (pa_cons (pe_bltn (v := .ty "list") (by rfl) T.g_list (by decide +kernel) rfl) (pa_cons (pe_bltn (v := .ty "tuple") (by rfl) T.g_tuple (by decide +kernel) rfl) pa_nil))) pa_nil)))))
        (pw_or1 (pt_cmpR op_gt (pe_callB call_len_seq (by rfl) T.g_len PySem.boot_len (pa_cons (pv 0) pa_nil)) (pe_glob (by rfl) hg (relI _ _)) (nomark _))))) (pss_one ps_never) pss_nil)
      (C8.pss_cut (ps_for PassesOwn.never rfl (pi_enS (by rfl) T.g_enumerate (pa_cons (pv 0) pa_nil)) (pg_tup rfl (pgs_cons (pg_name (i := 1) sc_row_of.nd rfl (Or.inl rfl)) (pgs_cons (pg_name (i := 2) sc_row_of.nd rfl (Or.inl rfl)) pgs_nil)))
        (pss_one (ps_if (pt_not (pt_val (pe_call (ok_key T) hr (by rfl) T.m_is_key T.F_is_key.kp (b_key T) .nil pass0 (pa_cons (pv 2) pa_nil)))) (pss_one ps_never) pss_nil)))
      (pss_one (ps_ret (pe_callTy call_tuple_of (by rfl) T.g_tuple (by decide +kernel) (pa_cons (pv 0) pa_nil))))), ?_⟩
    refine ⟨_, rfl, by show 2 ≤ sizeLine; decide, fun tp htp => ?_⟩
    have ha1 : Sq (upd H tp (.tup [.ty "list", .ty "tuple"])) a (ns.map V.int) := ha.same (Same.up htp)
    have isi : ∃ c b1, TyX K (upd H tp (.tup [.ty "list", .ty "tuple"])) (.ref a) (.type c) ∧ PySem.W.kitOne K (.type c) (.type "list") = some b1 ∧ (b1 = false → PySem.W.kitOne K (.type c) (.type "tuple") = some true) := by
      rcases ha1 with h | h
      · exact ⟨"list", true, .base (.lst h), kit_ty (by decide +kernel), fun z => by cases z⟩
      · exact ⟨"tuple", false, .base (.tup h), kit_ty (by decide +kernel), fun _ => kit_ty (by decide +kernel)⟩
    obtain ⟨c, b1, ty, k1, k2⟩ := isi
    refine ⟨_, tp, _, .type c, [.type "list", .type "tuple"], true, rfl, upd_same, .cons (.ty _) (.cons (.ty _) .nil), ty, kitAny_cons k1 (fun z => kitAny_cons (k2 z) (fun z => by cases z) (fun _ => rfl)) (fun _ => rfl), true, rfl, ?_⟩
    refine iteF ⟨_, rfl, a, _, rfl, ha1.len, _, _, rfl, rfl, _, rfl, ite2 (fun z => ?_) (fun _ => ?_)⟩
    · exfalso
      rw [List.length_map] at z
      have := of_decide_eq_true z
      omega
    refine ⟨fun σ H' => ∃ z y, σ = [some (.ref a), z, y] ∧ Same H H', ?_, ?_⟩
    · rcases ha with ha | ha
      · refine ⟨_, rfl, a, _, rfl, .inl ⟨SqL.of ((Same.up htp) _ _ ha), for_it (walk_enum (xs := ns.map V.int)) (fun i σ H' => ∃ z y, σ = [some (.ref a), z, y] ∧ Same H H') ⟨none, none, rfl, Same.up htp⟩ (fun i σ H' _ ⟨_, _, _, s⟩ => SqL.of (s _ _ ha)) ?_ ?_⟩⟩
        · rintro i v σ H2 H3 hi ⟨z, y, rfl, s⟩ ⟨T', x, x2, rfl, hT, rfl, e1, e2⟩
          obtain ⟨hi', rfl⟩ := ints_at e2
          cases e1
          refine ⟨_, _, rfl, SqT.of upd_same, rfl, _, _, rfl, _, _, rfl, rfl, ?_⟩
          refine ⟨_, rfl, _, rfl, _, rfl, ?_⟩
          rw [decide_eq_true (hk _ (List.getElem_mem hi'))]
          exact iteF ⟨_, _, rfl, s.trans (Same.up hT)⟩
        · rintro σ H2 ⟨z, y, rfl, s⟩
          exact ⟨_, _, rfl, s⟩
      · refine ⟨_, rfl, a, _, rfl, .inr ⟨SqT.of ((Same.up htp) _ _ ha), for_it (walk_enumT (xs := ns.map V.int)) (fun i σ H' => ∃ z y, σ = [some (.ref a), z, y] ∧ Same H H') ⟨none, none, rfl, Same.up htp⟩ (fun i σ H' _ ⟨_, _, _, s⟩ => SqT.of (s _ _ ha)) ?_ ?_⟩⟩
        · rintro i v σ H2 H3 hi ⟨z, y, rfl, s⟩ ⟨T', x, x2, rfl, hT, rfl, e1, e2⟩
          obtain ⟨hi', rfl⟩ := ints_at e2
          cases e1
          refine ⟨_, _, rfl, SqT.of upd_same, rfl, _, _, rfl, _, _, rfl, rfl, ?_⟩
          refine ⟨_, rfl, _, rfl, _, rfl, ?_⟩
          rw [decide_eq_true (hk _ (List.getElem_mem hi'))]
          exact iteF ⟨_, _, rfl, s.trans (Same.up hT)⟩
        · rintro σ H2 ⟨z, y, rfl, s⟩
          exact ⟨_, _, rfl, s⟩
    · rintro σ H2 ⟨z, y, rfl, s⟩
      rcases ha with ha | ha
      · exact ⟨_, rfl, a, _, rfl, .inl ⟨SqL.of (s _ _ ha), fun p hp => q _ _ (s.trans (Same.up hp)) upd_same⟩⟩
      · exact ⟨_, rfl, a, _, rfl, .inr ⟨SqT.of (s _ _ ha), q _ _ s (s _ _ ha)⟩⟩
theorem b_row (T : Tx K mg A) : L2.Binds K A.d_row_of ["row"] [] := T.F_row_of.binds fun _ _ _ _ _ _ us hl => match us, hl with | [_], _ => rfl
def spCm : Sp := fun vs H Q _ => ∃ i : Int, vs = [.int i] ∧ (0 ≤ i ∧ i ≤ 12) ∧ Q .non H
theorem ok_cm (T : Tx K mg A) : FnOk P w K mg base CX0 3 A.f_check_many A.d_check_many ["many"] spCm := by
  refine T.F_check_many.ok sc_check_many (fun vs H Q E h => ?_) (fun cdv B outer s H vs Q E hr h => ?_)
  · obtain ⟨i, rfl, _⟩ := h
    rfl
  · obtain ⟨i, rfl, hi, q⟩ := h
    obtain ⟨t, hg⟩ := cst T.c_MOST_PLACES
    refine ⟨_, pss_one (ps_if (pt_not (pt_val (pe_call (ok_ii T) hr (by rfl) T.m_is_integer_from T.F_is_integer_from.kp (b_ii T) .nil pass0
      (pa_cons (pv 0) (pa_cons pe_int (pa_cons (pe_glob (by rfl) hg (relI _ _)) pa_nil)))))) (pss_one ps_never) pss_nil), ?_⟩
    refine ⟨_, rfl, _, _, _, rfl, .inl ⟨i, rfl, _, rfl, ?_⟩⟩
    rw [decide_eq_true hi]
    exact iteF q
theorem b_cm (T : Tx K mg A) : L2.Binds K A.d_check_many ["many"] [] := T.F_check_many.binds fun _ _ _ _ _ _ us hl => match us, hl with | [_], _ => rfl
theorem rg_pl (n : Nat) : rgV 0 (n : Int) = pl n := by
  unfold rgV pl
  rw [show ((n : Int) - 0).toNat = n by omega]
  exact congrArg (fun f => (List.range n).map f) (funext fun i => by rw [Int.zero_add])
def spInit (C : Addr) : Sp := fun vs H Q _ => ∃ (p dx n w : Nat), vs = [.ref p, .int n, .int w] ∧ n ≤ 12 ∧ (1 ≤ w ∧ w ≤ 4) ∧ H p = some (.ins C dx []) ∧
  ∀ (H' : Hp), (∀ b o, H b = some o → b ≠ p → H' b = some o) → TreeAt C H' p n w → Q .non H'
theorem ok_init (T : Tx K mg A) : FnOk P w K mg base CX0 4 A.f_t___init__ A.d_t___init__ ["self", "many", "arms"] (spInit A.C) := by
  refine T.F_t___init__.ok sc_t___init__ (fun vs H Q E h => ?_) (fun cdv B outer s H vs Q E hr h => ?_)
  · obtain ⟨p, dx, n, w, rfl, _⟩ := h
    rfl
  · obtain ⟨p, dx, n, w, rfl, hn, hw, hp, q⟩ := h
    refine ⟨_, PSs.nox (pss_cons (ps_expr (pe_call (ok_ca T) hr (by rfl) T.m_check_arms T.F_check_arms.kp (b_ca T) .nil pass0 (pa_cons (pv 2) pa_nil)))
      (pss_cons (ps_expr (pe_call (ok_cm T) hr (by rfl) T.m_check_many T.F_check_many.kp (b_cm T) .nil pass0 (pa_cons (pv 1) pa_nil)))
      (pss_cons (ps_fld (pv 0) (pv 1) rfl) (pss_cons (ps_fld (pv 0) (pv 2) rfl)
      (pss_one (ps_fld (pv 0) (pe_tupRg rfl (by rfl) T.g_tuple (prg_1 (by rfl) T.g_range (pv 1))) rfl)))))), ?_⟩
    refine ⟨_, rfl, _, rfl, ⟨by omega, by omega⟩, _, rfl, _, rfl, ⟨by omega, by omega⟩, ?_⟩
    refine ⟨_, rfl, _, rfl, p, A.C, dx, _, rfl, hp, T.cT, T.nMany, (by show 0 < 1000; decide), ?_⟩
    refine ⟨_, rfl, _, rfl, p, A.C, dx, _, rfl, upd_same, T.cT, T.nArms, (by show 1 < 1000; decide), ?_⟩
    refine ⟨_, rfl, _, rfl, RgOk.of_le (by omega) (by omega) (by omega) (by omega), fun t ht => ?_⟩
    have npt : p ≠ t := fun z => by
      rw [z, upd_same] at ht
      cases ht
    refine ⟨_, rfl, p, A.C, dx, _, rfl, Eq.trans (upd_ne npt) upd_same, T.cT, T.nPl, (by simp only [putF, n1, if_false]; show 2 < 1000; decide), ?_⟩
    refine q _ (fun b o e hb => ?_) ⟨⟨dx, t, upd_same, ?_⟩, hn, hw⟩
    · have nbt : b ≠ t := ne_of_none (by rw [upd_ne hb, upd_ne hb]; exact e) ht
      rw [upd_ne hb, upd_ne nbt, upd_ne hb, upd_ne hb]
      exact e
    · rw [upd_ne npt.symm, upd_same, rg_pl]
end
end Tw

set_option Elab.async false
set_option linter.all false
set_option maxRecDepth 100000
set_option maxHeartbeats 2000000
namespace Tw
open PySem PySem.Spec PyProof.Rows L2
section
variable {P : Program} {w : World} {K : PySem.W.Frag} {mg : Str → Option Value} {base : Heap} {A : Ad}
open LamX (ExtN Tabs TabS)
def spOf (K : PySem.W.Frag) (C : Addr) : Sp := fun vs H Q _ => ∃ (a w : Nat) (ns : List Int), vs = [.ref C, .ref a, .int w] ∧ (1 ≤ w ∧ w ≤ 4) ∧ Sq H a (ns.map V.int) ∧ ns.length ≤ 12 ∧ (∀ n ∈ ns, -1000000000 ≤ n ∧ n ≤ 1000000000) ∧
  ∀ (H' : Hp) p, Same H H' → H p = none → TreeAt C H' p ns.length w → Q (.ref p) H'
theorem ok_of (T : Tx K mg A) : FnOk P w K mg base CX0 6 A.f_t_of A.d_t_of ["cls", "row", "arms"] (spOf K A.C) := by
  obtain ⟨mv, kb⟩ := kb_init T
  refine T.F_t_of.ok sc_t_of (fun vs H Q E h => ?_) (fun cdv B outer s H vs Q E hr h => ?_)
  · obtain ⟨a, w, ns, rfl, _⟩ := h
    rfl
  · obtain ⟨a, w, ns, rfl, hw, ha, hl, hk, q⟩ := h
    refine ⟨_, PSs.nox (pss_cons (ps_expr (pe_call (ok_ca T) (hr.mono (by decide)) (by rfl) T.m_check_arms T.F_check_arms.kp (b_ca T) .nil pass0 (pa_cons (pv 2) pa_nil)))
      (pss_one (ps_ret (pe_makeLK (i := 0) T.mkC (ok_init T) hr kb pass0 (pa_cons (pe_callB call_len_seq (by rfl) T.g_len PySem.boot_len (pa_cons (pe_call (ok_row T) (hr.mono (by decide)) (by rfl) T.m_row_of T.F_row_of.kp (b_row T) .nil pass0 (pa_cons (pv 1) pa_nil)) pa_nil)) pa_nil)
        (pk_cons (pv 2) pk_nil) rfl (Or.inl rfl))))), ?_⟩
    refine ⟨_, rfl, _, rfl, ⟨by omega, by omega⟩, rfl, _, rfl, a, ns, rfl, ha, hl, hk, fun H1 p s1 hp => ?_⟩
    refine ⟨p, _, rfl, .inr (SqT.of hp), _, rfl, rfl, rfl, fun x dx nx ndx nex => ?_⟩
    refine ⟨x, dx, ns.length, w, by rw [List.length_map]; rfl, hl, hw, upd_same, fun H2 k2 t2 => ⟨rfl, q H2 x (fun b o e => k2 b o ?_ (ne_of_none (s1 _ _ e) nx)) (s1.free nx) t2⟩⟩
    rw [upd_ne (ne_of_none (s1 _ _ e) nx), upd_ne (ne_of_none (s1 _ _ e) ndx)]
    exact s1 _ _ e
theorem ok_iter (T : Tx K mg A) : FnIt P w K mg base 2 A.f_t___iter__ A.d_t___iter__ ["self"] (spIter K A.C "_places") := by
  refine fnIt_of T.F_t___iter__ sc_t___iter__ (fun cdv B outer s H vs Q hr h => ?_)
  obtain ⟨a, dx, fs, t, zs, rfl, ha, hf, ht, q⟩ := h
  refine ⟨_, pss_one (ps_ret (pe_callB call_iterT (by rfl) T.g_iter (by decide +kernel) (pa_cons (pe_fld (pv 0) rfl) pa_nil))), ?_⟩
  exact ⟨_, rfl, a, A.C, dx, _, _, rfl, ha, T.cT, T.nPl, hf, t, zs, rfl, ht, q⟩
/-- the parent as the program says it -/
def parV (w p : Nat) : V := if p = 0 then .non else .int ((p - 1) / w : Nat)
def spPar (C : Addr) : Sp := fun vs H Q _ => ∃ (p n w i : Nat), vs = [.ref p, .int i] ∧ TreeAt C H p n w ∧ i < n ∧ Q (parV w i) H
theorem ok_par (T : Tx K mg A) : FnOk P w K mg base CX0 4 A.f_t_parent A.d_t_parent ["self", "place"] (spPar A.C) := by
  refine T.F_t_parent.ok sc_t_parent (fun vs H Q E h => ?_) (fun cdv B outer s H vs Q E hr h => ?_)
  · obtain ⟨p, n, w, i, rfl, _⟩ := h
    rfl
  · obtain ⟨p, n, w, i, rfl, t, hi, q⟩ := h
    obtain ⟨dx, l, h1, h2⟩ := t.ob
    refine ⟨_, pss_cons (ps_expr (pe_call (ok_cp T) hr (by rfl) T.m_check_place T.F_check_place.kp (b_cp T) .nil pass0 (pa_cons (pv 1) (pa_cons (pe_fld (pv 0) rfl) pa_nil))))
      (pss_cons (ps_if (pt_cmpR op_eq (pv 1) pe_int (nomark _)) (pss_one (ps_ret pe_non)) pss_nil)
      (pss_one (ps_ret (pe_op op_fdivN (pe_op op_sub (pv 1) pe_int) (pe_fld (pv 0) rfl))))), ?_⟩
    refine ⟨_, rfl, _, rfl, p, A.C, dx, _, _, rfl, h1, T.cT, T.nMany, tf_many _ _ _, _, _, rfl, ⟨by omega, by omega⟩, ?_⟩
    refine ⟨_, rfl, rfl, _, rfl, ?_⟩
    by_cases h0 : i = 0
    · rw [decide_eq_true (show V.int (i : Nat) = V.int 0 by rw [h0]; rfl)]
      refine iteT ?_
      unfold parV at q
      rw [if_pos h0] at q
      exact q
    · rw [decide_eq_false (show ¬ V.int (i : Nat) = V.int 0 by intro z; injection z with z; omega)]
      refine iteF ?_
      refine ⟨_, rfl, _, _, rfl, rfl, _, rfl, p, A.C, dx, _, _, rfl, h1, T.cT, T.nArms, tf_arms _ _ _, _, _, rfl, rfl, ⟨by have := t.hw; omega, by have := t.hw; omega⟩, ?_⟩
      unfold parV at q
      rw [if_neg h0] at q
      have e : Int.fdiv ((i : Int) - 1) (w : Int) = ((i - 1) / w : Nat) := by
        rw [Int.fdiv_eq_ediv_of_nonneg _ (by omega), show ((i : Int) - 1) = ((i - 1 : Nat) : Int) by omega]
        rfl
      show Q (V.int (Int.fdiv ((i : Int) - 1) (w : Int))) H
      rw [e]
      exact q
theorem ix_sq {H : Hp} {a : Addr} {ns : List Int} {i : Nat} {Q : VK} (h : Sq H a (ns.map V.int)) (hi : i < ns.length) (q : Q (.int (ns.getD i 0)) H) : rIx K (.ref a) (.int i) H Q := by
  have e : (ns.map V.int)[i]? = some (V.int (ns.getD i 0)) := by
    rw [List.getElem?_map, List.getElem?_eq_getElem hi, List.getD_eq_getElem?_getD, List.getElem?_eq_getElem hi]
    rfl
  rcases h with h | h
  · exact .inl ⟨a, _, _, _, rfl, rfl, SqL.of h, atI_nat e, q⟩
  · exact .inr (.inl ⟨a, _, _, _, rfl, rfl, SqT.of h, atI_nat e, q⟩)
theorem filt_pick (l : List Nat) (b : Nat → Bool) : vi (l.filter b) = l.filterMap fun j => if b j = true then some (V.int (j : Nat)) else none := by
  unfold vi
  induction l with
  | nil => rfl
  | cons a l ih =>
    by_cases h : b a = true
    · rw [List.filter_cons_of_pos h, List.map_cons, ih, List.filterMap_cons, if_pos h]
    · rw [List.filter_cons_of_neg h, ih, List.filterMap_cons, if_neg h]
def spFau : Sp := fun vs H Q _ => ∃ (a w : Nat) (ns : List Int), vs = [.ref a, .int w] ∧ (1 ≤ w ∧ w ≤ 4) ∧ RowIn H a ns ∧ ∀ H' q, Same H H' → H q = none → H' q = some (.lst (vi (faultL ns w))) → Q (.ref q) H'
theorem ok_fau (T : Tx K mg A) : FnOk P w K mg base CX0 7 A.f_faults A.d_faults ["row", "arms"] spFau := by
  obtain ⟨mo, ko⟩ := kb_of T
  refine T.F_faults.ok sc_faults (fun vs H Q E h => ?_) (fun cdv B outer s H vs Q E hr h => ?_)
  · obtain ⟨a, w, ns, rfl, _⟩ := h
    rfl
  · obtain ⟨a, w, ns, rfl, hw, hrow, q⟩ := h
    have nd := sc_faults.nd
    refine ⟨_, PSs.nox (pss_cons (ps_set (i := 2) nd rfl (Or.inr rfl) (pe_cmethK (pe_glob (v := .ref A.C) (by rfl) T.mC (relR _)) T.cr T.cof (ok_of T) hr ko pass0 (pa_cons (pv 0) pa_nil) (pk_cons (pv 1) pk_nil)))
      (pss_one (ps_ret (pe_lc (own := [("place", 3)]) (g := gName 3) rfl nd (pi_own T.D_t___iter__ (ok_iter T) (hr.mono (by decide)) (b_iter T) (pv 2)) (blkOk_by (own := [("place", 3)]) (N := ["row", "arms", "tree", "place"]) (sc := defScope s_faults) (by decide +kernel))
        (fun _ _ _ _ _ => pg_name (i := 3) nd rfl (Or.inl rfl))
        (fun _ _ _ _ _ => pts_one (PW.pt (pw_and (pt_cmpR op_gt (pv 3) pe_int (nomark _)) (pw_and1 (pt_cmpR op_lt (pe_ix (r := rIx K) ix_seq (pv 0) (pv 3) (fun _ _ => rfl))
          (pe_ix (r := rIx K) ix_seq (pv 0) (pe_meth (pv 2) T.cT T.M_t_parent (ok_par T) (hr.mono (by decide)) (b_par T) .nil pass0 (pa_cons (pv 3) pa_nil)) (fun _ _ => rfl)) (nomark _))))))
        (fun _ _ _ _ _ => pv 3))))), ?_⟩
    refine ⟨rfl, _, rfl, _, rfl, rfl, rfl, a, w, ns, rfl, hw, hrow.1, hrow.2.1, hrow.2.2, fun H1 p s1 p0 t1 => ?_⟩
    obtain ⟨dx, l, h1, h2⟩ := t1.ob
    have noP : (tf ns.length w l).lookup ("parent" : Str) = none := tf_no _ _ _ (by decide +kernel) (by decide +kernel) (by decide +kernel)
    have hlen := hrow.2.1
    refine ⟨_, rfl, p, dx, _, l, _, rfl, h1, tf_pl _ _ _, SqT.of h2, fun D hD => ?_⟩
    refine lc_it (walk_tup (xs := pl ns.length)) (PickI H1 D (List.range ns.length) fun j => if faultB ns w j = true then some (V.int (j : Nat)) else none) (pick_start hD) (fun k H' _ h => SqT.of (h.s _ _ h2)) ?_ ?_
    · rintro k x H2 H3 hk pk ⟨rfl, ex⟩
      obtain ⟨hk', rfl⟩ := map_at ex
      rw [List.getElem_range]
      have hk2 : k < ns.length := by rw [List.length_range] at hk'; exact hk'
      have hrow3 := (hrow.1.same s1).same pk.s
      refine ⟨rfl, _, rfl, _, _, rfl, rfl, _, rfl, ?_⟩
      by_cases h0 : 0 < k
      · rw [decide_eq_true (show (0 : Int) < (k : Nat) by omega)]
        have ep : parV w k = V.int ((k - 1) / w : Nat) := by unfold parV; rw [if_neg (by omega)]
        have hlt : (k - 1) / w < k := Nat.lt_of_le_of_lt (Nat.div_le_self _ _) (by omega)
        refine iteT ⟨_, rfl, _, rfl, ix_sq hrow3 hk2 ⟨_, rfl, _, rfl, p, dx, _, rfl, pk.s _ _ h1, noP, _, rfl, p, ns.length, w, k, rfl, t1.same pk.s, hk2, ?_⟩⟩
        rw [ep]
        refine ix_sq hrow3 (by omega) ⟨_, _, rfl, rfl, _, rfl, ?_⟩
        have ef : faultB ns w k = decide (ns.getD k 0 < ns.getD ((k - 1) / w) 0) := by unfold faultB; rw [decide_eq_true h0, Bool.true_and]
        by_cases hf : ns.getD k 0 < ns.getD ((k - 1) / w) 0
        · rw [decide_eq_true hf] at ef ⊢
          exact iteT ⟨_, rfl, pick_yes hk' (by rw [List.length_range]; omega) (by rw [List.getElem_range, ef]; rfl) (Same.refl _) pk⟩
        · rw [decide_eq_false hf] at ef ⊢
          exact iteF (pick_no hk' (by rw [List.getElem_range, ef]; rfl) (Same.refl _) pk)
      · rw [decide_eq_false (show ¬ (0 : Int) < (k : Nat) by omega)]
        have ef : faultB ns w k = false := by unfold faultB; rw [decide_eq_false h0, Bool.false_and]
        exact iteF (iteF (pick_no hk' (by rw [List.getElem_range, ef]; rfl) (Same.refl _) pk))
    · intro H2 pk
      have ac := pick_end (by rw [pl_len, List.length_range]) pk
      refine q _ D (s1.trans ac.s) (s1.free hD) ?_
      rw [ac.a]
      unfold faultL
      rw [filt_pick]
theorem kb_fau (T : Tx K mg A) : ∃ mv : List Value, KBn K A.d_faults ["row", "arms"] 1 ["arms"] (fun us ws => us ++ (mv ++ ws)) (fun vs zs => vs ++ zs) := by
  obtain ⟨mv, h⟩ := T.F_faults.kbinds0 (ps := ["row", "arms"]) 1 ["arms"] [] (fun us mv ws => us ++ (mv ++ ws)) (by simp) (by simp) (fun r1 r2 r3 => r1.append (r2.append r3))
    (fun D doc pm an cdv ct us mv ws h1 h2 h3 => by
      match us, mv, ws, h1, h2, h3 with
      | [a], [], [c], _, _, _ => rfl)
  exact ⟨mv, h⟩
def rTupOf (K : PySem.W.Frag) : List V → Hp → VK → Prop := fun xs H Q => ∃ p ys, xs = [V.ref p] ∧ ((SqL K H p ys ∧ ∀ l, H l = none → Q (.ref l) (upd H l (.tup ys))) ∨ SqT K H p ys ∧ Q (.ref p) H)
theorem call_tupK {X : Cx} : CallR X (.type "tuple") (rTupOf X.K) := call_tuple_of
def spHp : Sp := fun vs H Q _ => ∃ (r w : Nat) (ks : List Int), vs = [.ref r, .int w] ∧ (1 ≤ w ∧ w ≤ 4) ∧ RowIn H r ks ∧ faultL ks w = [] ∧ ∀ H' q, Same H H' → H' q = some (.tup (ks.map V.int)) → Q (.ref q) H'
theorem ok_hp (T : Tx K mg A) : FnOk P w K mg base CX0 8 A.f_heap_of A.d_heap_of ["row", "arms"] spHp := by
  obtain ⟨mf, kf⟩ := kb_fau T
  refine T.F_heap_of.ok sc_heap_of (fun vs H Q E h => ?_) (fun cdv B outer s H vs Q E hr h => ?_)
  · obtain ⟨r, w, ks, rfl, _⟩ := h
    rfl
  · obtain ⟨r, w, ks, rfl, hw, hrow, hf, q⟩ := h
    have nd := sc_heap_of.nd
    refine ⟨_, PSs.nox (pss_cons (ps_set (i := 2) nd rfl (Or.inl rfl) (pe_callN (ok_fau T) (hr.mono (by decide)) (by rfl) T.m_faults T.F_faults.kp kf pass0 (pa_cons (pv 0) pa_nil) (pk_cons (pv 1) pk_nil)))
      (pss_cons (ps_if (pt_truth (pv 2) (fun _ => rfl)) (pss_one ps_never) pss_nil)
      (pss_one (ps_ret (pe_callTy (r := rTupOf K) call_tupK (by rfl) T.g_tuple (by decide +kernel) (pa_cons (pv 0) pa_nil)))))), ?_⟩
    refine ⟨_, rfl, _, rfl, rfl, rfl, r, w, ks, rfl, hw, hrow, fun H1 d s1 d0 hd => ?_⟩
    refine ⟨_, rfl, !(vi (faultL ks w)).isEmpty, .inl ⟨_, SqL.of hd, rfl⟩, ?_⟩
    rw [hf]
    refine iteF ?_
    rcases hrow.1.same s1 with h | h
    · exact ⟨_, rfl, r, _, rfl, .inl ⟨SqL.of h, fun t nt => q _ t (s1.trans (Same.up nt)) upd_same⟩⟩
    · exact ⟨_, rfl, r, _, rfl, .inr ⟨SqT.of h, q _ r s1 h⟩⟩
def spLen (C : Addr) : Sp := fun vs H Q _ => ∃ (p n w : Nat), vs = [.ref p] ∧ TreeAt C H p n w ∧ Q (.int n) H
theorem ok_len (T : Tx K mg A) : FnOk P w K mg base CX0 2 A.f_t___len__ A.d_t___len__ ["self"] (spLen A.C) := by
  refine T.F_t___len__.ok sc_t___len__ (fun vs H Q E h => ?_) (fun cdv B outer s H vs Q E hr h => ?_)
  · obtain ⟨p, n, w, rfl, _⟩ := h
    rfl
  · obtain ⟨p, n, w, rfl, t, q⟩ := h
    obtain ⟨dx, l, h1, h2⟩ := t.ob
    refine ⟨_, pss_one (ps_ret (pe_callB call_len_seq (by rfl) T.g_len PySem.boot_len (pa_cons (pe_fld (pv 0) rfl) pa_nil))), ?_⟩
    refine ⟨_, rfl, p, A.C, dx, _, _, rfl, h1, T.cT, T.nPl, tf_pl _ _ _, l, _, rfl, .inr (SqT.of h2), ?_⟩
    rw [pl_len]
    exact q
theorem pos_of_mem {u : Int} : ∀ {l : List Int}, u ∈ l → ∃ j, l[j]? = some u ∧ (∀ m : Nat, m < j → l[m]? ≠ some u) ∧ l.eraseIdx j = l.erase u
  | [], h => nomatch h
  | a :: l, h => by
    by_cases e : a = u
    · subst e
      exact ⟨0, rfl, fun m hm => absurd hm (Nat.not_lt_zero _), (List.erase_cons_head ..).symm⟩
    · have hm : u ∈ l := by
        rcases List.mem_cons.mp h with y | y
        · exact absurd y.symm e
        · exact y
      obtain ⟨j, h1, h2, h3⟩ := pos_of_mem hm
      refine ⟨j + 1, h1, fun m hm => ?_, ?_⟩
      · cases m with
        | zero =>
          intro z
          exact e (Option.some.inj z)
        | succ m => exact h2 m (by omega)
      · rw [List.erase_cons_tail (by simpa using e), ← h3]
        rfl
def tTruK (K : PySem.W.Frag) (ta : TE) : TT := fun σ H Q => ta σ H fun x H' => ∃ k, TruV K x H' k ∧ Q k H'
theorem pt_truK {X : Cx} {K : PySem.W.Frag} {a : Expr} {ta : TE} (hK : X.K = K) (ha : PE X a ta) (he : ∀ whole, isTrue a X.env whole = (do let v ← whole; standAt a.pos; holding [v] (truthy v))) : PT X a (tTruK K ta) := by
  subst hK
  exact pt_truth ha he
theorem q1 : ¬ (("row" : Str) = "stops") := by decide +kernel
theorem tupI_of {H : Hp} : ∀ {xs : List V} {ls : List (List Int)}, RowsAt H xs ls → Paired (TupI K H) xs ls
  | _, _, .nil => .nil
  | _, _, .cons ⟨t, e, h⟩ p => .cons ⟨t, e, SqT.of h⟩ (tupI_of p)
theorem RowsAt.push {H : Hp} {x : V} {l : List Int} (hp : RowAt H x l) : ∀ {xs : List V} {ls : List (List Int)}, RowsAt H xs ls → RowsAt H (xs ++ [x]) (ls ++ [l])
  | _, _, .nil => .cons hp .nil
  | _, _, .cons a b => .cons a (RowsAt.push hp b)
theorem RowsAt.put {H : Hp} {D : Addr} {xs zs ys : List V} {ls : List (List Int)} (hD : H D = some (.lst zs)) (h : RowsAt H xs ls) : RowsAt (upd H D (.lst ys)) xs ls :=
  L2.Paired.mapP h fun _ _ ⟨t, e, z⟩ => ⟨t, e, by rw [upd_ne (ne_of z hD (by intro q; cases q))]; exact z⟩
theorem AccR.push {H1 H : Hp} {D : Addr} {ls : List (List Int)} {x : V} {l : List Int} (h : AccR H1 D ls H) (hp : RowAt H x l) (hl : ls.length < sizeLine) :
    ∃ acc, H D = some (.lst acc) ∧ acc.length < sizeLine ∧ AccR H1 D (ls ++ [l]) (upd H D (.lst (acc ++ [x]))) := by
  obtain ⟨xs, e, z⟩ := h.a
  refine ⟨xs, e, by rw [z.length]; exact hl, fun b o k => ?_, h.n, xs ++ [x], upd_same, (RowsAt.push hp z).put e⟩
  rw [upd_ne (ne_of_none k h.n)]
  exact h.s b o k
theorem RowsAt.same {H H' : Hp} {xs : List V} {ls : List (List Int)} (h : RowsAt H xs ls) (s : Same H H') : RowsAt H' xs ls := L2.Paired.mapP h fun _ _ ⟨t, e, z⟩ => ⟨t, e, s _ _ z⟩
theorem AccR.same {H1 H H' : Hp} {D : Addr} {ls : List (List Int)} (h : AccR H1 D ls H) (s : Same H H') : AccR H1 D ls H' := ⟨h.s.trans s, h.n, let ⟨xs, e, z⟩ := h.a; ⟨xs, s _ _ e, z.same s⟩⟩
end
end Tw

set_option Elab.async false
set_option linter.all false
set_option maxRecDepth 100000
set_option maxHeartbeats 2000000
namespace Tw
open PySem PySem.Spec PyProof.Rows L2
section
variable {P : Program} {w : World} {K : PySem.W.Frag} {mg : Str → Option Value} {base : Heap} {A : Ad}
open LamX (ExtN Tabs TabS)
/-! the program's own: Front.__len__, counted_heap_of, least_keys, front -/
def spFlen (A : Ad) : Sp := fun vs H Q _ => ∃ (p : Addr) (xs ys : List Int), vs = [.ref p] ∧ AtF A.CF H p xs ys ∧ xs.length + ys.length ≤ 1000 ∧ ∀ H', Same H H' → Q (.int (xs.length + ys.length : Nat)) H'
theorem ok_flen (T : Tx K mg A) : FnOk P w K mg base CX0 1 A.f_f___len__ A.d_f___len__ ["self"] (spFlen A) := by
  refine T.F_f___len__.ok sc_f___len__ (fun vs H Q E h => ?_) (fun cdv B outer s H vs Q E hr h => ?_)
  · obtain ⟨p, xs, ys, rfl, _⟩ := h
    rfl
  · obtain ⟨p, xs, ys, rfl, ⟨dx, t0, t1, h, e0, e1⟩, hl, q⟩ := h
    refine ⟨_, (pss_one (ps_ret (pe_callB call_len_seq (by rfl) T.g_len PySem.boot_len (pa_cons (pe_op (r := rCatU) op_catU (pe_fld (pv 0) rfl) (pe_fld (pv 0) rfl)) pa_nil)))), ?_⟩
    refine ⟨_, rfl, p, A.CF, dx, _, _, rfl, h, T.cTF, T.fTaken, fdF_taken _ _, _, rfl, p, A.CF, dx, _, _, rfl, h, T.cTF, T.fWait, fdF_waiting _ _, t0, t1, _, _, rfl, rfl, e0, e1, Nat.le_of_lt (small1000 (by rw [List.length_map, List.length_map]; exact hl)), fun t H' s' et => ?_⟩
    refine ⟨t, _, rfl, .inr (SqT.of et), ?_⟩
    rw [List.length_append, List.length_map, List.length_map]
    exact q H' s'
theorem b_flen (T : Tx K mg A) : L2.Binds K A.d_f___len__ ["self"] [] := T.F_f___len__.binds fun _ _ _ _ _ _ us hl => match us, hl with | [_], _ => rfl
structure HpC (H : Hp) (r c w : Nat) (ks : List Int) : Prop where
  hw : 1 ≤ w ∧ w ≤ 4
  row : RowIn H r ks
  flt : faultL ks w = []
  hc : c ≤ ks.length
def spChp : Sp := fun vs H Q _ => ∃ (r c w : Nat) (ks : List Int), vs = [.ref r, .int c, .int w] ∧ HpC H r c w ks ∧ ∀ H' q, Same H H' → H' q = some (.tup (ks.map V.int)) → Q (.ref q) H'
theorem ok_chp (T : Tx K mg A) : FnOk P w K mg base CX0 9 A.f_counted_heap_of A.d_counted_heap_of ["row", "count", "arms"] spChp := by
  refine T.F_counted_heap_of.ok sc_counted_heap_of (fun vs H Q E h => ?_) (fun cdv B outer s H vs Q E hr h => ?_)
  · obtain ⟨r, c, w, ks, rfl, _⟩ := h
    rfl
  · obtain ⟨r, c, w, ks, rfl, hp, q⟩ := h
    have nd := sc_counted_heap_of.nd
    refine ⟨_, (pss_cons (ps_set (i := 3) nd rfl (Or.inl rfl) (pe_call (ok_hp T) (hr.mono (by decide)) (by rfl) T.m_heap_of T.F_heap_of.kp (b_hp T) .nil pass0 (pa_cons (pv 0) (pa_cons (pv 2) pa_nil))))
      (pss_cons (ps_expr (pe_call (ok_cc T) (hr.mono (by decide)) (by rfl) T.m_check_count T.F_check_count.kp (b_cc T) .nil pass0 (pa_cons (pv 1) (pa_cons (pe_callB call_len_seq (by rfl) T.g_len PySem.boot_len (pa_cons (pv 3) pa_nil)) pa_nil))))
      (pss_one (ps_ret (pv 3))))), ?_⟩
    refine ⟨_, rfl, _, rfl, r, w, ks, rfl, hp.hw, hp.row, hp.flt, fun H1 p s1 e1 => ?_⟩
    refine ⟨_, rfl, _, rfl, p, _, rfl, .inr (SqT.of e1), c, ks.length, by rw [List.length_map]; rfl, hp.hc, ?_⟩
    exact ⟨_, rfl, q _ p s1 e1⟩
theorem b_chp (T : Tx K mg A) : L2.Binds K A.d_counted_heap_of ["row", "count", "arms"] [] := T.F_counted_heap_of.binds fun _ _ _ _ _ _ us hl => match us, hl with | [_, _, _], _ => rfl
def spLks : Sp := fun vs H Q _ => ∃ (r c w : Nat) (ks : List Int), vs = [.ref r, .int c, .int w] ∧ HpC H r c w ks ∧ ∀ H' q (s : List Int), Same H H' → H q = none → s.Perm ks → s.Pairwise (· ≤ ·) → H' q = some (.lst ((s.take c).map V.int)) → Q (.ref q) H'
theorem ok_lks (T : Tx K mg A) : FnOk P w K mg base CX0 10 A.f_least_keys A.d_least_keys ["row", "count", "arms"] spLks := by
  refine T.F_least_keys.ok sc_least_keys (fun vs H Q E h => ?_) (fun cdv B outer s H vs Q E hr h => ?_)
  · obtain ⟨r, c, w, ks, rfl, _⟩ := h
    rfl
  · obtain ⟨r, c, w, ks, rfl, hp, q⟩ := h
    refine ⟨_, (pss_one (ps_ret (pe_slice (r := rSlL K) sl_list (pe_callB cr_sortedTu (by rfl) T.g_sorted (by decide +kernel) (pa_cons (pe_call (ok_chp T) (hr.mono (by decide)) (by rfl) T.m_counted_heap_of T.F_counted_heap_of.kp (b_chp T) .nil pass0 (pa_cons (pv 0) (pa_cons (pv 1) (pa_cons (pv 2) pa_nil)))) pa_nil)) po_none (po_some (pv 1))))), ?_⟩
    refine ⟨_, rfl, _, rfl, _, rfl, r, c, w, ks, rfl, hp, fun H1 p s1 e1 => ?_⟩
    refine ⟨p, ks, rfl, SqT.of e1, fun ns o hpm hso no => ?_⟩
    refine ⟨_, rfl, _, rfl, o, _, rfl, SqL.of upd_same, fun p2 np2 => ?_⟩
    rw [icut]
    exact q _ p2 ns ((s1.trans (Same.up no)).trans (Same.up np2)) (s1.free (Same.free (Same.up no) np2)) hpm hso upd_same
theorem klks (T : Tx K mg A) : ∃ mv : List Value, KBn K A.d_least_keys ["row", "count", "arms"] 2 ["arms"] (fun us ws => us ++ (mv ++ ws)) (fun vs zs => vs ++ zs) := by
  obtain ⟨mv, h⟩ := T.F_least_keys.kbinds0 (ps := ["row", "count", "arms"]) 2 ["arms"] [] (fun us mv ws => us ++ (mv ++ ws)) (by simp) (by simp) (fun r1 r2 r3 => r1.append (r2.append r3))
    (fun D doc pm an cdv ct us mv ws h1 h2 h3 => by
      match us, mv, ws, h1, h2, h3 with
      | [a, b], [], [e], _, _, _ => rfl)
  exact ⟨mv, h⟩

/-! front -/
def zl (l : List Nat) : List Int := l.map fun (i : Nat) => (i : Int)
theorem vi_zl (l : List Nat) : vi l = (zl l).map V.int := by
  unfold vi zl
  rw [List.map_map]
  rfl
theorem zl_app (a b : List Nat) : zl (a ++ b) = zl a ++ zl b := List.map_append
theorem zl_len (l : List Nat) : (zl l).length = l.length := List.length_map _
theorem zl_erase (b : Nat) : ∀ l : List Nat, (zl l).erase (b : Int) = zl (l.erase b)
  | [] => rfl
  | a :: l => by
    show ((a : Int) :: zl l).erase (b : Int) = zl ((a :: l).erase b)
    by_cases h : a = b
    · subst h
      rw [List.erase_cons_head, List.erase_cons_head]
    · rw [List.erase_cons_tail (by simp; omega), List.erase_cons_tail (by simp; exact h), zl_erase b l]
      rfl
theorem zl_get {l : List Nat} {i : Nat} (h : i < l.length) : ((zl l).map V.int)[i]? = some (V.int (l[i] : Nat)) := by
  rw [← vi_zl]
  unfold vi
  rw [List.getElem?_map, List.getElem?_eq_getElem h]
  rfl
theorem getD_at {l : List Nat} {i : Nat} (h : i < l.length) : l.getD i 0 = l[i] := by
  rw [List.getD_eq_getElem?_getD, List.getElem?_eq_getElem h]
  rfl
theorem last_at {g : List Nat} (h : g ≠ []) : atI ((zl g).map V.int) (-1) = some (V.int (g.getD (g.length - 1) 0 : Nat)) := by
  have hl := List.length_pos_iff.mpr h
  have e : ((zl g).map V.int).length = g.length := by rw [List.length_map, zl_len]
  have h2 := zl_get (l := g) (i := g.length - 1) (by omega)
  rw [getD_at (by omega), ← h2, at_last (by omega), List.getElem?_eq_getElem (by omega)]
  simp only [e]
def pairK (ks : List Int) (p : Nat) : List Int := [keyAt ks p, (p : Int)]
theorem best_min {ks : List Int} {l : List Nat} {m : List Int} (hm : m ∈ l.map (pairK ks)) (hle : ∀ z ∈ l.map (pairK ks), m ≤ z) : ∃ b, m = pairK ks b ∧ IsBest ks l b := by
  obtain ⟨b, hb, rfl⟩ := List.mem_map.mp hm
  refine ⟨b, rfl, hb, fun p hp => ?_⟩
  have h := hle _ (List.mem_map_of_mem hp)
  unfold leP
  have h2 : ¬ pairK ks p < pairK ks b := List.not_lt.mpr h
  unfold pairK at h2
  by_cases h3 : keyAt ks b < keyAt ks p
  · exact .inl h3
  · by_cases h4 : keyAt ks b = keyAt ks p
    · refine .inr ⟨h4, ?_⟩
      refine Nat.le_of_not_lt fun h5 => h2 ?_
      rw [h4]
      exact List.cons_lt_cons_self.mpr (List.Lex.rel (by omega))
    · exact absurd (List.Lex.rel (by omega)) h2

structure FrS (H0 H : Hp) (T W : Addr) (g l : List Nat) : Prop where
  s : Same H0 H
  eT : H T = some (.lst ((zl g).map V.int))
  eW : H W = some (.lst ((zl l).map V.int))
structure FrN (H0 : Hp) (T W : Addr) : Prop where
  nT : H0 T = none
  nW : H0 W = none
  ne : T ≠ W
theorem FrS.up {H0 H H' : Hp} {T W : Addr} {g l : List Nat} (h : FrS H0 H T W g l) (s : Same H H') : FrS H0 H' T W g l := ⟨h.s.trans s, s _ _ h.eT, s _ _ h.eW⟩
theorem FrS.setT {H0 H : Hp} {T W : Addr} {g l g' : List Nat} (h : FrS H0 H T W g l) (N : FrN H0 T W) {xs : List V} (e : xs = (zl g').map V.int) : FrS H0 (upd H T (.lst xs)) T W g' l :=
  ⟨fun b o z => by rw [upd_ne (ne_of_none z N.nT)]; exact h.s _ _ z, by rw [upd_same, e], by rw [upd_ne N.ne.symm]; exact h.eW⟩
theorem FrS.setW {H0 H : Hp} {T W : Addr} {g l l' : List Nat} (h : FrS H0 H T W g l) (N : FrN H0 T W) {xs : List V} (e : xs = (zl l').map V.int) : FrS H0 (upd H W (.lst xs)) T W g l' :=
  ⟨fun b o z => by rw [upd_ne (ne_of_none z N.nW)]; exact h.s _ _ z, by rw [upd_ne N.ne]; exact h.eT, by rw [upd_same, e]⟩
def spFr (A : Ad) : Sp := fun vs H Q _ => ∃ (r c w : Nat) (ks : List Int), vs = [.ref r, .int c, .int w] ∧ HpC H r c w ks ∧
  ∀ H' q (ws : List Int), Same H H' → ws.Perm (zl (stF ks.length w ks c).2) → ws.Pairwise (· ≤ ·) → AtF A.CF H' q (zl (stF ks.length w ks c).1) ws → Q (.ref q) H'
theorem ok_fr (T : Tx K mg A) : FnOk P w K mg base CX0 10 A.f_front A.d_front ["row", "count", "arms"] (spFr A) := by
  obtain ⟨mo, ko⟩ := kb_of T
  refine T.F_front.ok sc_front (fun vs H Q E h => ?_) (fun cdv B outer s H vs Q E hr h => ?_)
  · obtain ⟨r, c, w, ks, rfl, _⟩ := h
    rfl
  · obtain ⟨r, c, w, ks, rfl, hp, q⟩ := h
    have nd := sc_front.nd
    have hu2 : (B.deeper (envOfC "front" (defScope s_front) s.heap.objs.size A.f_front cdv)).units + 65 < cLine := by have := hr.un; omega
    have hw := hp.hw
    have hrow := hp.row
    have hk12 := hrow.2.1
    have hkb := hrow.2.2
    have hc := hp.hc
    have hh : HeapL ks.length w ks := fault_heap hw hk12 rfl hp.flt
    refine ⟨_, PSs.nox (pss_cons (ps_set (i := 3) nd rfl (Or.inr rfl) (pe_call (ok_chp T) (hr.mono (by decide)) (by rfl) T.m_counted_heap_of T.F_counted_heap_of.kp (b_chp T) .nil pass0 (pa_cons (pv 0) (pa_cons (pv 1) (pa_cons (pv 2) pa_nil)))))
      (pss_cons (ps_set (i := 4) nd rfl (Or.inl rfl) (pe_cmethK (pe_glob (v := .ref A.C) (by rfl) T.mC (relR _)) T.cr T.cof (ok_of T) (hr.mono (by decide)) ko pass0 (pa_cons (pv 3) pa_nil) (pk_cons (pv 2) pk_nil)))
      (pss_cons (ps_set (i := 5) nd rfl (Or.inl rfl) (pe_lst pa_nil))
      (C8.pss_cut (ps_set (i := 6) nd rfl (Or.inl rfl) (pe_slice (r := rSlL K) sl_list (pe_callTy (call_listO T.D_t___iter__ (ok_iter T) (b_iter T) T.D_t___len__ (ok_len T) (b_len T) (hr.mono (by decide))) (by rfl) T.g_list (by decide +kernel) (pa_cons (pv 4) pa_nil)) po_none (po_some pe_int)))
      (C8.pss_cut (ps_while PassesOwn.never (pt_cmpR op_lt (pe_callB call_len_seq (by rfl) T.g_len PySem.boot_len (pa_cons (pv 5) pa_nil)) (pv 1) (nomark _)) (C8.pss_cut (ps_if (pt_truK (K := K) rfl (pv 5) (fun _ => rfl)) (pss_one (ps_expr (pe_bm PySem.F.plainAttrs_list PySem.F.slot_list_extend PySem.F.type_list_extend mt_extend (pv 6) (pa_cons (pe_callTy call_list_of (by rfl) T.g_list (by decide +kernel) (pa_cons (pe_gi T.D_t___getitem__ (ok_gi T) (hr.mono (by decide)) (b_gi T) pass0 (pv 4) (pe_ix (r := rIxL K) ix_list (pv 5) (pe_un un_neg pe_int) (fun _ _ => rfl))) pa_nil)) pa_nil)))) pss_nil)
      (C8.pss_cut (ps_set (i := 7) nd rfl (Or.inl rfl) (pe_callB (cr_minTA hr.hd hu2) (by rfl) T.g_min (by decide +kernel) (pa_cons (pe_lc (own := [("place", 8)]) (g := gName 8) (tt := tYes) rfl nd (pi_list (pv 6)) (blkOk_by (own := [("place", 8)]) (N := ["row", "count", "arms", "heap", "tree", "taken", "waiting", "least", "place"]) (sc := (defScope s_front)) (by decide +kernel)) (fun _ _ _ _ _ => pg_name (i := 8) nd rfl (Or.inl rfl)) (fun _ _ _ _ _ => pts_nil) (fun _ _ _ _ _ => (pe_tup (pa_cons (pe_ix (r := rIxT K) ix_tup (pv 3) (pv 8) (fun _ _ => rfl)) (pa_cons (pv 8) pa_nil))))) pa_nil)))
      (pss_cons (ps_expr (pe_bm PySem.F.plainAttrs_list PySem.F.slot_list_append PySem.F.type_list_append mt_append (pv 5) (pa_cons (pe_ix (r := rIxT K) ix_tup (pv 7) pe_int (fun _ _ => rfl)) pa_nil)))
      (pss_one (ps_expr (pe_bm PySem.F.plainAttrs_list PySem.F.slot_list_remove PySem.F.type_list_remove mt_remove (pv 6) (pa_cons (pe_ix (r := rIxT K) ix_tup (pv 7) pe_int (fun _ _ => rfl)) pa_nil))))))))
      (pss_one (ps_ret (pe_make T.mkCF (ok_iF T) (hr.mono (by decide)) (by rfl) T.mCF (b_iF T) .nil pass0 (pa_cons (pv 5) (pa_cons (pe_callB cr_sortedI (by rfl) T.g_sorted (by decide +kernel) (pa_cons (pv 6) pa_nil)) pa_nil)))))))))), ?_⟩
    refine ⟨_, rfl, _, rfl, _, rfl, r, c, w, ks, rfl, hp, fun H1 h s1 e1 => ?_⟩
    refine ⟨rfl, _, rfl, _, rfl, rfl, rfl, h, w, ks, rfl, hw, .inr e1, hk12, hkb, fun H2 tr s2 p0 t2 => ?_⟩
    have e2 := s2 _ _ e1
    have s12 := s1.trans s2
    generalize en : ks.length = n at *
    refine ⟨Nat.zero_le _, fun D nD => ?_⟩
    have s3 := Same.up (o := .lst []) nD
    refine ⟨fun σ' H' => ∃ W : Addr, σ' = [some (.ref r), some (.int c), some (.int w), some (.ref h), some (.ref tr), some (.ref D), some (.ref W), none, none] ∧ FrN H2 D W ∧ FrS H2 H' D W [] ((List.range n).take 1), ?_, ?_⟩
    · obtain ⟨dx, l, g1, g2⟩ := (t2.same s3).ob
      refine ⟨_, rfl, tr, dx, _, l, pl n, rfl, g1, tf_pl _ _ _, SqT.of g2, by rw [pl_len]; omega, ⟨tr, n, w, rfl, t2.same s3, n, rfl, by omega, rfl⟩, fun c1 nc1 => ?_⟩
      have s4 := s3.trans (Same.up (o := .lst (pl n)) nc1)
      have eD4 := (Same.up (o := .lst (pl n)) nc1) _ _ (upd_same (H := H2) (a := D) (o := .lst []))
      have ec4 := upd_same (H := upd H2 D (.lst [])) (a := c1) (o := .lst (pl n))
      generalize upd (upd H2 D (.lst [])) c1 (.lst (pl n)) = G4 at s4 eD4 ec4
      refine ⟨_, rfl, c1, _, rfl, SqL.of ec4, fun W nW => ⟨W, rfl, ⟨nD, s4.free nW, ne_of_none eD4 nW⟩, ⟨s4.trans (Same.up nW), (Same.up nW) _ _ eD4, ?_⟩⟩⟩
      rw [upd_same, show (1 : Int) = ((1 : Nat) : Int) from rfl, cut_to, show pl n = vi (List.range n) from rfl, vi_zl]
      simp only [zl, List.map_take]
    rintro σ' H3 ⟨W, rfl, hN, f3⟩
    refine ⟨fun σ' H' => ∃ x7 : Option V, σ' = [some (.ref r), some (.int c), some (.int w), some (.ref h), some (.ref tr), some (.ref D), some (.ref W), x7, none] ∧ FrS H2 H' D W (stF n w ks c).1 (stF n w ks c).2, ?_, ?_⟩
    · refine ⟨fun m σ' H' => ∃ (k : Nat) (x7 : Option V), m = c - k ∧ k ≤ c ∧ σ' = [some (.ref r), some (.int c), some (.int w), some (.ref h), some (.ref tr), some (.ref D), some (.ref W), x7, none] ∧ FrS H2 H' D W (stF n w ks k).1 (stF n w ks k).2, ⟨c, 0, none, rfl, Nat.zero_le _, rfl, f3⟩, ?_⟩
      rintro m σ' H4 ⟨k, x7, rfl, hkc, rfl, f4⟩
      have hgl : (stF n w ks k).1.length = k := (fr_ok hw.1 hh k (by omega)).len
      refine ⟨_, rfl, D, _, rfl, .inl (SqL.of f4.eT), _, rfl, _, _, rfl, rfl, _, rfl, ?_⟩
      rw [List.length_map, zl_len, hgl]
      by_cases hk : k < c
      case neg =>
        rw [decide_eq_false (show ¬ ((k : Nat) : Int) < (c : Nat) by omega)]
        have : k = c := by omega
        subst this
        exact iteF ⟨_, rfl, f4⟩
      rw [decide_eq_true (show ((k : Nat) : Int) < (c : Nat) by omega)]
      refine iteT ⟨fun σ' H' => ∃ x7 : Option V, σ' = [some (.ref r), some (.int c), some (.int w), some (.ref h), some (.ref tr), some (.ref D), some (.ref W), x7, none] ∧ FrS H2 H' D W (stF n w ks (k + 1)).1 (stF n w ks (k + 1)).2, fun σ' H' ⟨x7, e, f⟩ => ⟨c - (k + 1), by omega, k + 1, x7, rfl, by omega, e, f⟩, ?_⟩
      have hbest := fr_w hw.1 hh (show k < n by omega)
      have I := fr_ok hw.1 hh k (by omega)
      have est1 : (stF n w ks (k + 1)).1 = (stF n w ks k).1 ++ [bestL ks (wkL n w (stF n w ks k).1 (stF n w ks k).2)] := rfl
      have est2 : (stF n w ks (k + 1)).2 = (wkL n w (stF n w ks k).1 (stF n w ks k).2).erase (bestL ks (wkL n w (stF n w ks k).1 (stF n w ks k).2)) := rfl
      rw [est1, est2]
      clear est1 est2
      have ewk : wkL n w (stF n w ks k).1 (stF n w ks k).2 = if (stF n w ks k).1 = [] then (stF n w ks k).2 else (stF n w ks k).2 ++ kidL n w ((stF n w ks k).1.getD ((stF n w ks k).1.length - 1) 0) := rfl
      generalize (stF n w ks k).1 = g at *
      generalize (stF n w ks k).2 = l at *
      generalize wkL n w g l = wk at *
      generalize bestL ks wk = b at *
      have hwn : ∀ p ∈ wk, p < n := fun p hp => ((I.mem p).mp hp).1
      have hwl : wk.length ≤ 12 := by
        have := len_le_of_sub I.wnd (b := List.range n) fun p hp => List.mem_range.mpr (hwn p hp)
        rw [List.length_range] at this
        omega
      refine ⟨fun σ' H' => σ' = [some (.ref r), some (.int c), some (.int w), some (.ref h), some (.ref tr), some (.ref D), some (.ref W), x7, none] ∧ FrS H2 H' D W g wk, ?_, ?_⟩
      · by_cases hg : g = []
        · refine ⟨_, rfl, false, .inl ⟨_, SqL.of f4.eT, by rw [hg]; rfl⟩, iteF ⟨rfl, ?_⟩⟩
          rw [ewk, if_pos hg]
          exact f4
        · have hi : g.getD (g.length - 1) 0 < n := by
            have := List.length_pos_iff.mpr hg
            rw [getD_at (by omega)]
            exact I.lt _ (List.getElem_mem _)
          have ta := t2.same f4.s
          obtain ⟨dx, lt, g1, g2⟩ := id ta.ob
          refine ⟨_, rfl, true, .inl ⟨_, SqL.of f4.eT, by cases g with | nil => exact absurd rfl hg | cons a g => rfl⟩, iteT ?_⟩
          refine ⟨_, rfl, .inl ⟨rfl, _, SqL.of f4.eW⟩, _, rfl, _, rfl, _, rfl, D, _, _, _, rfl, rfl, SqL.of f4.eT, last_at hg, tr, dx, _, rfl, g1, tr, n, w, _, rfl, ta, hi, fun B2 ch s5 ech => ?_⟩
          rw [kids_vi _ _ _ hk12 hw (by omega)] at ech
          have ech : B2 ch = some (.tup ((zl (kidL n w (g.getD (g.length - 1) 0))).map V.int)) := ech
          refine ⟨ch, _, rfl, .inr (SqT.of ech), fun q1 nq1 => ?_⟩
          have f5 := f4.up (s5.trans (Same.up (o := .lst ((zl (kidL n w (g.getD (g.length - 1) 0))).map V.int)) nq1))
          have hwl2 := hwl
          rw [ewk, if_neg hg, List.length_append] at hwl2
          refine ⟨W, q1, _, _, rfl, rfl, f5.eW, upd_same, Nat.le_of_lt (small1000 (by rw [List.length_map, List.length_map, zl_len, zl_len]; omega)), rfl, ?_⟩
          refine f5.setW hN ?_
          rw [ewk, if_neg hg, zl_app, List.map_append]
      rintro σ' H5 ⟨rfl, f5⟩
      clear f4
      refine ⟨fun σ' H' => ∃ t : Addr, σ' = [some (.ref r), some (.int c), some (.int w), some (.ref h), some (.ref tr), some (.ref D), some (.ref W), some (.ref t), none] ∧ FrS H2 H' D W g wk ∧ SqT K H' t ((pairK ks b).map V.int), ?_, ?_⟩
      · refine ⟨_, rfl, W, rfl, ⟨_, SqL.of f5.eW⟩, fun D2 nD2 => ?_⟩
        have e5 := f5.s _ _ e2
        refine lc_it (walk_list (xs := (zl wk).map V.int)) (fun i H' => AccR H5 D2 ((wk.take i).map (pairK ks)) H') (AccR.start nD2) (fun i H' _ ac => SqL.of (ac.s _ _ f5.eW)) ?_ ?_
        · rintro i x G1o G1 hi ac ⟨rfl, hx⟩
          rw [List.length_map, zl_len] at hi
          rw [zl_get hi] at hx
          cases hx
          have hpn := hwn _ (List.getElem_mem hi)
          refine ⟨rfl, _, rfl, _, rfl, h, _, _, _, rfl, rfl, SqT.of (ac.s _ _ e5), key_at (by omega), _, rfl, by show 2 ≤ sizeLine; decide, fun tp ntp => ?_⟩
          have ac2 := ac.same (Same.up (o := .tup [V.int (keyAt ks wk[i]), V.int (wk[i] : Nat)]) ntp)
          rw [← List.take_append_getElem hi, List.map_append]
          exact ac2.push (x := .ref tp) (l := pairK ks wk[i]) ⟨tp, rfl, upd_same⟩ (small1000 (by rw [List.length_map, List.length_take]; omega))
        · intro G ac
          rw [List.length_map, zl_len, List.take_length] at ac
          obtain ⟨xs, ex, rx⟩ := ac.a
          refine ⟨D2, xs, _, rfl, SqL.of ex, tupI_of rx, ?_, fun t m ht hm hle => ?_⟩
          · intro z
            have := List.map_eq_nil_iff.mp z
            have := hbest.1
            simp_all
          · obtain ⟨b2, rfl, hb2⟩ := best_min hm hle
            have := best_one hb2 hbest
            subst this
            exact ⟨t, rfl, f5.up ac.s, ht⟩
      rintro σ' H6 ⟨t, rfl, f6, et⟩
      clear f5
      have hgl2 : g.length ≤ 12 := by omega
      refine ⟨_, rfl, .inl ⟨rfl, _, SqL.of f6.eT⟩, _, rfl, t, _, _, V.int (b : Nat), rfl, rfl, et, rfl, D, _, _, rfl, rfl, f6.eT, small1000 (by rw [List.length_map, zl_len]; omega), ?_⟩
      have f7 := f6.setT hN (g' := g ++ [b]) (xs := (zl g).map V.int ++ [V.int (b : Nat)]) (by rw [zl_app, List.map_append]; rfl)
      have et7 : SqT K (upd H6 D (.lst ((zl g).map V.int ++ [V.int (b : Nat)]))) t ((pairK ks b).map V.int) := SqT.put f6.eT et
      generalize upd H6 D (.lst ((zl g).map V.int ++ [V.int (b : Nat)])) = H7 at f7 et7
      obtain ⟨j, j1, j2, j3⟩ := pos_of_mem (l := zl wk) (u := (b : Int)) (List.mem_map_of_mem hbest.1)
      refine ⟨_, rfl, .inl ⟨rfl, _, SqL.of f7.eW⟩, _, rfl, t, _, _, V.int (b : Nat), rfl, rfl, et7, rfl, W, zl wk, _, j, rfl, rfl, f7.eW, j1, j2, ?_⟩
      refine ⟨_, rfl, f7.setW hN ?_⟩
      rw [j3, zl_erase]
    rintro σ' H4 ⟨x7, rfl, f4⟩
    refine ⟨_, rfl, _, rfl, W, _, rfl, SqL.of f4.eW, fun ws o hpm hso no => ?_⟩
    have s5 := Same.up (o := .lst (ws.map V.int)) no
    have f5 := f4.up s5
    have eo := upd_same (H := H4) (a := o) (o := .lst (ws.map V.int))
    generalize upd H4 o (.lst (ws.map V.int)) = G5 at f5 eo
    refine fun x dx nx ndx nex => ?_
    have s6 := new_up (C := A.CF) nx ndx nex
    refine ⟨x, dx, D, o, _, ws, rfl, upd_same, .inl (s6 _ _ f5.eT), .inl (s6 _ _ eo), fun H6 k6 at6 => ⟨rfl, ?_⟩⟩
    have s7 := new_same nx ndx k6
    exact q _ x ws (s12.trans (f5.s.trans s7)) hpm hso at6

end
end Tw

set_option Elab.async false
set_option linter.all false
set_option maxRecDepth 100000
set_option maxHeartbeats 2000000
namespace Tw
open PySem PySem.Spec PyProof.Rows L2
section
variable {P : Program} {w : World} {K : PySem.W.Frag} {mg : Str → Option Value} {base : Heap} {A : Ad}
open LamX (ExtN Tabs TabS)
theorem SqT.sm {K : PySem.W.Frag} {H H' : Hp} {a : Addr} {xs : List V} (s : Same H H') (h : SqT K H a xs) : SqT K H' a xs := by
  rcases h with (h | ⟨o, h⟩) | h
  · exact .inl (.inl (s _ _ h))
  · exact .inl (.inr ⟨o, s _ _ h⟩)
  · exact .inr h
theorem b_num (T : Tx K mg A) : L2.Binds K A.d__law_number ["script", "index"] [] := T.F__law_number.binds fun _ _ _ _ _ _ us hl => match us, hl with | [_, _], _ => rfl
theorem emp_eqv : ∀ ns : List Int, PyData.eqv (.list (ns.map PyData.int)) (.list []) = decide (ns = [])
  | [] => by rfl
  | n :: ns => by rfl
theorem keyAt_mem {ks : List Int} {p : Nat} (h : p < ks.length) : keyAt ks p ∈ ks := by
  unfold keyAt
  rw [List.getD_eq_getElem?_getD, List.getElem?_eq_getElem h]
  exact List.getElem_mem h
theorem map_one (l : List Int) (x : Int) : l.map V.int ++ [V.int x] = (l ++ [x]).map V.int := by rw [List.map_append]; rfl
theorem cut63 (xs : List V) (h : xs.length ≤ 63) : cutV xs none (some 63) = xs := by
  unfold cutV
  rw [HT.sIx_none, show (63 : Int) = ((63 : Nat) : Int) from rfl, HT.sIx_nat, List.drop_zero, Nat.min_eq_right h, Nat.sub_zero, List.take_length]
def spNum (K : PySem.W.Frag) : Sp := fun vs H Q _ => ∃ (a : Addr) (ns : List Int) (i : Nat), vs = [.ref a, .int i] ∧ SqL K H a (ns.map V.int) ∧ ns.length ≤ 63 ∧ i < 1000000 ∧ ∀ H' r, Same H H' → Q (.int r) H'
theorem ok_num (T : Tx K mg A) : FnOk P w K mg base CX0 2 A.f__law_number A.d__law_number ["script", "index"] (spNum K) := by
  refine T.F__law_number.ok sc__law_number (fun vs H Q E h => ?_) (fun cdv B outer s H vs Q E hr h => ?_)
  · obtain ⟨a, ns, i, rfl, _⟩ := h
    rfl
  · obtain ⟨a, ns, i, rfl, ha, hl, hi, q⟩ := h
    have nd := sc__law_number.nd
    have hu := hr.units
    refine ⟨_, C8.pss_cut (ps_set (i := 2) nd rfl (Or.inl rfl) (pe_ifExp (pt_cmpR (op_neD hu) (pv 0) (pe_lst pa_nil) (nomark _)) (pe_slice sl_list (pv 0) po_none (po_some pe_int)) (pe_lst (pa_cons pe_int pa_nil))))
      (pss_cons (ps_set (i := 3) nd rfl (Or.inl rfl) (pe_op op_add
        (pe_ix ix_list (pv 2) (pe_op op_mod (pe_callTy call_int1 (by rfl) T.g_int (by decide +kernel) (pa_cons (pv 1) pa_nil)) (pe_callB call_len_seq (by rfl) T.g_len PySem.boot_len (pa_cons (pv 2) pa_nil))) (fun _ _ => rfl))
        (pe_op op_mul pe_int (pe_op op_fdivN (pv 1) (pe_callB call_len_seq (by rfl) T.g_len PySem.boot_len (pa_cons (pv 2) pa_nil))))))
      (pss_cons (ps_par (i := 4) (j := 5) rfl nd rfl rfl (by decide) rfl rfl (pa_cons (pe_op op_mod (pe_callTy call_int1 (by rfl) T.g_int (by decide +kernel) (pa_cons (pv 3) pa_nil)) pe_int)
          (pa_cons (pe_op op_mod (pe_callTy call_int1 (by rfl) T.g_int (by decide +kernel) (pa_cons (pe_op op_fdivN (pv 3) pe_int) pa_nil)) pe_int) pa_nil)) rfl)
      (pss_cons (ps_set (i := 6) nd rfl (Or.inl rfl) (pe_op op_mod (pe_callTy call_int1 (by rfl) T.g_int (by decide +kernel) (pa_cons (pe_callB (cr_sum rfl) (by rfl) T.g_sum (by decide +kernel) (pa_cons (pv 2) pa_nil)) pa_nil)) pe_int))
      (pss_cons (ps_set (i := 7) nd rfl (Or.inl rfl) (pe_op op_mod (pe_callTy call_int1 (by rfl) T.g_int (by decide +kernel) (pa_cons
          (pe_op op_add (pe_op op_add (pe_op op_mul (pe_op op_add (pv 4) (pe_op op_mul pe_int (pv 1))) pe_int) (pe_op op_mul pe_int (pv 5))) (pv 6)) pa_nil)) pe_int))
      (pss_one (ps_ret (pe_op op_add (pe_op op_mul (pe_op op_mod (pe_callTy call_int1 (by rfl) T.g_int (by decide +kernel) (pa_cons
          (pe_op op_mul (pv 7) (pe_op op_add (pe_op op_add (pv 7) (pe_op op_mul pe_int (pv 1))) pe_int)) pa_nil)) pe_int) pe_int) (pv 5)))))))), ?_⟩
    refine ⟨fun σ H1 => ∃ (c : Addr) (cs : List Int), σ = [some (.ref a), some (.int i), some (.ref c), none, none, none, none, none] ∧ Same H H1 ∧ H1 c = some (.lst (cs.map V.int)) ∧ 0 < cs.length ∧ cs.length ≤ 63, ?_, ?_⟩
    · refine ⟨_, rfl, Nat.zero_le _, fun l0 hl0 => ?_⟩
      have hs0 : Same H (upd H l0 (.lst [])) := Same.up hl0
      refine ⟨.list (ns.map PyData.int), .list [], .lst (hs0.seq ha) (ints_dp _ _ _), .lst (SqL.of upd_same) .nil, ?_, rfl, _, rfl, ?_⟩
      · exact shaped_ints _
      · rw [emp_eqv]
        by_cases e : ns = []
        · rw [decide_eq_true e]
          refine iteF ⟨by show 1 ≤ sizeLine; decide, fun l1 hl1 => ⟨l1, [5], rfl, hs0.trans (Same.up hl1), upd_same, by decide, by decide⟩⟩
        · rw [decide_eq_false e]
          refine iteT ⟨_, rfl, _, rfl, a, _, rfl, hs0.seq ha, fun l1 hl1 => ⟨l1, ns, rfl, hs0.trans (Same.up hl1), ?_, ?_, hl⟩⟩
          · rw [upd_same]
            exact congrArg (fun z => some (HO.lst z)) (cut63 _ (by rw [List.length_map]; exact hl))
          · exact List.length_pos_iff.mpr e
    · rintro σ H1 ⟨c, cs, rfl, s1, hc, h0, h63⟩
      have hq := SqL.of (K := K) hc
      have hL : ((cs.map V.int).length : Int) = (cs.length : Int) := by rw [List.length_map]
      have hm0 : 0 ≤ (i : Int) % (cs.length : Int) := Int.emod_nonneg _ (by omega)
      have hm1 : (i : Int) % (cs.length : Int) < (cs.length : Int) := Int.emod_lt_of_pos _ (by omega)
      obtain ⟨j, hj⟩ : ∃ j : Nat, (i : Int) % (cs.length : Int) = (j : Int) := ⟨_, (Int.toNat_of_nonneg hm0).symm⟩
      have hjl : j < cs.length := by omega
      have hat : atI (cs.map V.int) ((i : Int) % ((cs.map V.int).length : Int)) = some (V.int cs[j]) := by
        rw [hL, hj]
        exact atI_nat (by rw [List.getElem?_map, List.getElem?_eq_getElem hjl]; rfl)
      refine ⟨_, rfl, _, rfl, .inl ⟨_, rfl, _, rfl, c, _, rfl, .inl hq, _, _, rfl, rfl, ?_, c, _, _, _, rfl, rfl, hq, hat, _, rfl, _, rfl, c, _, rfl, .inl hq, _, _, rfl, rfl, ⟨?_, ?_⟩, _, _, rfl, rfl, .inl ⟨by decide, by decide⟩, _, _, rfl, rfl, ?_⟩⟩
      · show (0 : Int) < ((cs.map V.int).length : Int)
        omega
      · omega
      · omega
      · refine ⟨_, rfl, .inl ⟨_, rfl, _, _, rfl, rfl, by show (0 : Int) < 1000003; decide, ?_⟩⟩
        refine ⟨_, rfl, _, _, rfl, rfl, ⟨by decide, by decide⟩, .inl ⟨_, rfl, _, _, rfl, rfl, by show (0 : Int) < 999983; decide, _, _, rfl, ?_⟩⟩
        refine ⟨_, rfl, c, cs, rfl, hq, .inl ⟨_, rfl, _, _, rfl, rfl, by show (0 : Int) < 65521; decide, ?_⟩⟩
        refine ⟨_, rfl, _, rfl, _, _, rfl, rfl, .inl ⟨by decide, by decide⟩, _, _, rfl, rfl, _, _, rfl, rfl, .inr ⟨by decide, by decide⟩, ?_⟩
        refine ⟨_, rfl, _, _, rfl, rfl, .inl ⟨by decide, by decide⟩, _, _, rfl, rfl, _, rfl, _, _, rfl, rfl, .inl ⟨_, rfl, _, _, rfl, rfl, by show (0 : Int) < 2147483647; decide, ?_⟩⟩
        refine ⟨_, rfl, _, rfl, _, rfl, _, _, rfl, rfl, .inl ⟨by decide, by decide⟩, _, _, rfl, rfl, _, _, rfl, rfl, _, _, rfl, rfl, .inl ⟨?_, ?_⟩, .inl ⟨_, rfl, _, _, rfl, rfl, by show (0 : Int) < 2147483629; decide, ?_⟩⟩
        · have := Int.emod_nonneg ((((cs[j] + 13 * Int.fdiv (i : Int) ((cs.map V.int).length : Int)) % 1000003 + 977 * (i : Int)) * 48271 + 31 * (Int.fdiv (cs[j] + 13 * Int.fdiv (i : Int) ((cs.map V.int).length : Int)) 1000003 % 999983)) + cs.sum % 65521) (show (2147483647 : Int) ≠ 0 by decide)
          omega
        · have := Int.emod_lt_of_pos ((((cs[j] + 13 * Int.fdiv (i : Int) ((cs.map V.int).length : Int)) % 1000003 + 977 * (i : Int)) * 48271 + 31 * (Int.fdiv (cs[j] + 13 * Int.fdiv (i : Int) ((cs.map V.int).length : Int)) 1000003 % 999983)) + cs.sum % 65521) (show (0 : Int) < 2147483647 by decide)
          omega
        · exact ⟨_, _, rfl, rfl, .inr ⟨by decide, by decide⟩, _, rfl, _, _, rfl, rfl, q _ _ s1⟩
abbrev rLn (K : PySem.W.Frag) : List V → Hp → VK → Prop := fun xs H Q => ∃ p ys, xs = [.ref p] ∧ (SqL K H p ys ∨ SqT K H p ys) ∧ Q (.int ys.length) H
end
end Tw

set_option Elab.async false
set_option linter.all false
set_option maxRecDepth 100000
set_option maxHeartbeats 2000000
namespace Tw
open PySem PySem.Spec PyProof.Rows L2
section
variable {P : Program} {w : World} {K : PySem.W.Frag} {mg : Str → Option Value} {base : Heap} {A : Ad}
open LamX (ExtN Tabs TabS)
/-! the law's own: _law_heap, _law_walked -/
theorem keyAt_snoc (ks : List Int) (x : Int) (c : Nat) : keyAt (ks ++ [x]) c = if c < ks.length then keyAt ks c else if c = ks.length then x else 0 := by
  unfold keyAt
  rw [List.getD_eq_getElem?_getD, List.getD_eq_getElem?_getD]
  by_cases h : c < ks.length
  · rw [if_pos h, List.getElem?_append_left h]
  · rw [if_neg h, List.getElem?_append_right (by omega)]
    by_cases h2 : c = ks.length
    · rw [if_pos h2, h2, Nat.sub_self]
      rfl
    · rw [if_neg h2, show c - ks.length = (c - ks.length - 1) + 1 by omega]
      rfl
structure GrowH (w i : Nat) (ks : List Int) : Prop where
  len : ks.length = i
  hp : HeapL i w ks
  bd : ∀ z ∈ ks, -400000 ≤ z ∧ z ≤ 600000 * (i : Int)
theorem GrowH.step {w i : Nat} {ks : List Int} {least x : Int} (h : GrowH w i ks) (hl : if 0 < i then least = keyAt ks ((i - 1) / w) else (-400000 ≤ least ∧ least ≤ 0)) (h1 : least ≤ x) (h2 : x ≤ least + 600000) : GrowH w (i + 1) (ks ++ [x]) := by
  have hlen := h.len
  have hb : -400000 ≤ least ∧ least ≤ 600000 * (i : Int) := by
    by_cases hi : 0 < i
    · rw [if_pos hi] at hl
      rw [hl]
      exact h.bd _ (keyAt_mem (by have := Nat.div_le_self (i - 1) w; omega))
    · rw [if_neg hi] at hl
      exact ⟨hl.1, by omega⟩
  refine ⟨by rw [List.length_append, List.length_singleton, hlen], fun c hc1 hc2 => ?_, fun z hz => ?_⟩
  · have hd := Nat.div_le_self (c - 1) w
    rw [keyAt_snoc, keyAt_snoc, if_pos (by omega)]
    by_cases hc : c < ks.length
    · rw [if_pos hc]
      exact h.hp c hc1 (by omega)
    · have hci : c = i := by omega
      rw [if_neg hc, if_pos (by omega), hci]
      rw [if_pos (by omega)] at hl
      rw [← hl]
      exact h1
  · rcases List.mem_append.mp hz with hz | hz
    · have := h.bd z hz
      exact ⟨this.1, by have := this.2; omega⟩
    · rw [List.mem_singleton.mp hz]
      exact ⟨by omega, by omega⟩
def spLhp (K : PySem.W.Frag) : Sp := fun vs H Q _ => ∃ (a : Addr) (ns : List Int) (at' n w : Nat) (sp : Int), vs = [.ref a, .int at', .int n, .int w, .int sp] ∧ SqL K H a (ns.map V.int) ∧ ns.length ≤ 63 ∧ at' ≤ 1000 ∧ n ≤ 12 ∧ (1 ≤ w ∧ w ≤ 4) ∧ (3 ≤ sp ∧ sp ≤ 1000000) ∧
  ∀ H' q (ks : List Int), Same H H' → H' q = some (.tup (ks.map V.int)) → GrowH w n ks → Q (.ref q) H'
theorem ok_lhp (T : Tx K mg A) : FnOk P w K mg base CX0 3 A.f__law_heap A.d__law_heap ["script", "at", "many", "wide", "span"] (spLhp K) := by
  refine T.F__law_heap.ok sc__law_heap (fun vs H Q E h => ?_) (fun cdv B outer s H vs Q E hr h => ?_)
  · obtain ⟨a, ns, at', n, w, sp, rfl, _⟩ := h
    rfl
  · obtain ⟨a, ns, at', n, w, sp, rfl, ha, h63, hat, hn, hw, hsp, q⟩ := h
    have nd := sc__law_heap.nd
    refine ⟨_, (pss_cons (ps_set (i := 5) nd rfl (Or.inl rfl) (pe_lst pa_nil))
      (C8.pss_cut (ps_for PassesOwn.never rfl (pi_range1 rfl T.g_range (pa_cons (pv 2) pa_nil)) (pg_name (i := 6) nd rfl (Or.inl rfl)) (C8.pss_cut (ps_set (i := 7) nd rfl (Or.inl rfl) (pe_ifExp (pt_cmpR op_gt (pv 6) pe_int (nomark _)) (pe_ix (r := rIxL K) ix_list (pv 5) (pe_op op_fdivN (pe_op op_sub (pv 6) pe_int) (pv 3)) (fun _ _ => rfl)) (pe_op op_fdiv (pe_un un_neg (pv 4)) pe_int)))
      (pss_one (ps_expr (pe_bm PySem.F.plainAttrs_list PySem.F.slot_list_append PySem.F.type_list_append mt_append (pv 5) (pa_cons (pe_op op_add (pv 7) (pe_op op_mod (pe_callTy call_int1 (by rfl) T.g_int (by decide +kernel) (pa_cons (pe_call (ok_num T) (hr.mono (by decide)) (by rfl) T.m__law_number T.F__law_number.kp (b_num T) .nil pass0 (pa_cons (pv 0) (pa_cons (pe_op op_add (pv 1) (pv 6)) pa_nil))) pa_nil)) (pe_op op_add (pe_op op_fdiv (pv 4) pe_int) pe_int))) pa_nil))))))
      (pss_one (ps_ret (pe_callTy call_tuple_of (by rfl) T.g_tuple (by decide +kernel) (pa_cons (pv 5) pa_nil)))))), ?_⟩
    refine ⟨Nat.zero_le _, fun D nD => ?_⟩
    have s0 := Same.up (o := .lst []) nD
    refine ⟨fun σ' H' => ∃ (x6 x7 : Option V) (ks : List Int), σ' = [some (.ref a), some (.int at'), some (.int n), some (.int w), some (.int sp), some (.ref D), x6, x7] ∧ Same H H' ∧ H' D = some (.lst (ks.map V.int)) ∧ GrowH w n ks, ?_, ?_⟩
    · refine ⟨_, rfl, _, rfl, by omega, by omega, ?_⟩
      rw [Int.toNat_natCast]
      refine for_it (walk_range (lo := 0) (n := n)) (fun i σ' H' => ∃ (x6 x7 : Option V) (ks : List Int), σ' = [some (.ref a), some (.int at'), some (.int n), some (.int w), some (.int sp), some (.ref D), x6, x7] ∧ Same H H' ∧ H' D = some (.lst (ks.map V.int)) ∧ GrowH w i ks)
        ⟨none, none, [], rfl, s0, upd_same, rfl, fun c h1 h2 => by omega, fun k hk => nomatch hk⟩ (fun _ _ _ _ _ => trivial) ?_ ?_
      · rintro i y σ' H2 H3 hi ⟨x6, x7, ks, rfl, s3, e3, gh⟩ ⟨rfl, ey⟩
        obtain rfl : y = V.int (i : Nat) := by
          rw [ey]
          show V.int (0 + (i : Int)) = _
          rw [Int.zero_add]
        have hkl := gh.len
        refine ⟨fun σ' H' => ∃ least : Int, σ' = [some (.ref a), some (.int at'), some (.int n), some (.int w), some (.int sp), some (.ref D), some (.int i), some (.int least)] ∧ H' = H3 ∧ (if 0 < i then least = keyAt ks ((i - 1) / w) else (-400000 ≤ least ∧ least ≤ 0)), ?_, ?_⟩
        · refine ⟨_, rfl, _, _, rfl, rfl, _, rfl, ?_⟩
          by_cases h0 : 0 < i
          · rw [decide_eq_true (show ((i : Nat) : Int) > 0 by omega)]
            have e : Int.fdiv ((i : Int) - 1) (w : Int) = ((i - 1) / w : Nat) := by
              rw [Int.fdiv_eq_ediv_of_nonneg _ (by omega), show ((i : Int) - 1) = ((i - 1 : Nat) : Int) by omega]
              rfl
            have hd := Nat.div_le_self (i - 1) w
            refine iteT ⟨_, rfl, _, rfl, _, _, rfl, rfl, _, rfl, _, _, rfl, rfl, ⟨by omega, by omega⟩, D, _, _, _, rfl, rfl, SqL.of e3, (by rw [e]; exact key_at (by omega)), _, rfl, rfl, by rw [if_pos h0]⟩
          · rw [decide_eq_false (show ¬ ((i : Nat) : Int) > 0 by omega)]
            refine iteF ⟨_, rfl, _, rfl, _, _, rfl, rfl, ⟨by decide, by decide⟩, _, rfl, rfl, ?_⟩
            rw [if_neg h0]
            omega
        rintro σ' H4 ⟨least, rfl, rfl, hle⟩
        refine ⟨_, rfl, .inl ⟨rfl, _, SqL.of e3⟩, _, rfl, _, rfl, _, rfl, _, rfl, _, _, rfl, rfl, a, ns, at' + i, rfl, s3.seq ha, h63, by omega, fun H4 r s4 => ?_⟩
        have e4 := s4 _ _ e3
        refine .inl ⟨_, rfl, _, rfl, _, _, rfl, rfl, ⟨by decide, by decide⟩, _, _, rfl, rfl, _, _, rfl, rfl, by omega, _, _, rfl, rfl, D, _, _, rfl, rfl, e4, small1000 (by rw [List.length_map]; omega), ?_⟩
        have hm1 := Int.emod_nonneg r (show sp / 2 + 1 ≠ 0 by omega)
        have hm2 := Int.emod_lt_of_pos r (show (0 : Int) < sp / 2 + 1 by omega)
        refine ⟨_, _, ks ++ [least + r % (sp / 2 + 1)], rfl, fun b o z => ?_, ?_, gh.step hle (by omega) (by omega)⟩
        · rw [upd_ne (ne_of_none z nD)]
          exact s4 _ _ (s3 _ _ z)
        · rw [upd_same, map_one]
      · rintro σ' H2 ⟨x6, x7, ks, rfl, s3, e3, gh⟩
        exact ⟨x6, x7, ks, rfl, s3, e3, gh⟩
    · rintro σ' H2 ⟨x6, x7, ks, rfl, s3, e3, gh⟩
      exact ⟨_, rfl, D, _, rfl, .inl ⟨SqL.of e3, fun t nt => q _ t ks (s3.trans (Same.up nt)) upd_same gh⟩⟩
theorem b_lhp (T : Tx K mg A) : L2.Binds K A.d__law_heap ["script", "at", "many", "wide", "span"] [] := T.F__law_heap.binds fun _ _ _ _ _ _ us hl => match us, hl with | [_, _, _, _, _], _ => rfl

/-! _law_walked -/
theorem pickN_map (l : List Nat) (b : Nat → Bool) : (l.filterMap fun z => if b z = true then some (V.int (z : Nat)) else none) = (zl (l.filter b)).map V.int := by
  induction l with
  | nil => rfl
  | cons a l ih =>
    by_cases h : b a = true
    · rw [List.filterMap_cons, if_pos h, List.filter_cons_of_pos h, ih]
      rfl
    · rw [List.filterMap_cons, if_neg h, List.filter_cons_of_neg h, ih]
theorem zl_first : ∀ {l : List Nat} (h : 0 < l.length), atI ((zl l).map V.int) 0 = some (V.int (l[0] : Nat))
  | a :: l, h => key_at (ks := zl (a :: l)) (p := 0) (Nat.succ_pos _)
theorem lex_ahead (ks : List Int) (p q : Nat) : HT.lexLt (pairK ks p) (pairK ks q) = aheadB ks p q := by
  unfold pairK aheadB
  show (if keyAt ks p = keyAt ks q then (if (p : Int) = (q : Int) then false else decide ((p : Int) < (q : Int))) else decide (keyAt ks p < keyAt ks q)) = _
  by_cases h : keyAt ks p = keyAt ks q
  · rw [if_pos h]
    by_cases h2 : (p : Int) = (q : Int)
    · rw [if_pos h2]
      exact (decide_eq_false (by omega)).symm
    · rw [if_neg h2]
      exact decide_eq_decide.mpr (by omega)
  · rw [if_neg h]
    exact decide_eq_decide.mpr (by omega)
theorem bestF_snoc (ks : List Int) (l : List Nat) (b p : Nat) : bestF ks b (l ++ [p]) = if aheadB ks p (bestF ks b l) = true then p else bestF ks b l := by
  unfold bestF
  rw [List.foldl_append]
  rfl
def spLwk (K : PySem.W.Frag) : Sp := fun vs H Q _ => ∃ (r c w : Nat) (ks : List Int), vs = [.ref r, .int c, .int w] ∧ (1 ≤ w ∧ w ≤ 4) ∧ SqT K H r (ks.map V.int) ∧ ks.length ≤ 12 ∧ HeapL ks.length w ks ∧ c ≤ ks.length ∧
  ∀ H' q (t1 t2 : Addr) (ws : List Int), Same H H' → H' q = some (.tup [.ref t1, .ref t2]) → H' t1 = some (.tup ((zl (stF ks.length w ks c).1).map V.int)) → H' t2 = some (.tup (ws.map V.int)) → ws.Perm (zl (stF ks.length w ks c).2) → ws.Pairwise (· ≤ ·) → Q (.ref q) H'
theorem ok_lwk (T : Tx K mg A) : FnOk P w K mg base CX0 1 A.f__law_walked A.d__law_walked ["row", "count", "wide"] (spLwk K) := by
  refine T.F__law_walked.ok sc__law_walked (fun vs H Q E h => ?_) (fun cdv B outer s H vs Q E hr h => ?_)
  · obtain ⟨r, c, w, ks, rfl, _⟩ := h
    rfl
  · obtain ⟨r, c, w, ks, rfl, hw, hr1, hk12, hh, hc, q⟩ := h
    have nd := sc__law_walked.nd
    have hu := hr.units
    have hu0 : (B.deeper (envOfC "_law_walked" (defScope s__law_walked) s.heap.objs.size A.f__law_walked cdv)).units < cLine := by have := hr.un; omega
    generalize en : ks.length = n at *
    refine ⟨_, (C8.pss_cut (ps_par (i := 3) (j := 4) rfl nd rfl rfl (by decide) rfl rfl (pa_cons (pe_lst pa_nil) (pa_cons (pe_ifExp (pt_cmpR (op_neD hu) (pv 0) (pe_tup pa_nil) (nomark _)) (pe_lst (pa_cons pe_int pa_nil)) (pe_lst pa_nil)) pa_nil)) rfl)
      (C8.pss_cut (ps_for PassesOwn.never rfl (pi_range1 rfl T.g_range (pa_cons (pv 1) pa_nil)) (pg_name (i := 5) nd rfl (Or.inl rfl)) (C8.pss_cut (ps_if (pt_cmpR (op_neD hu) (pv 3) (pe_lst pa_nil) (nomark _)) (C8.pss_cut (ps_set (i := 6) nd rfl (Or.inl rfl) (pe_op op_add (pe_op op_mul (pv 2) (pe_ix (r := rIxL K) ix_list (pv 3) (pe_un un_neg pe_int) (fun _ _ => rfl))) pe_int))
      (pss_one (ps_set (i := 4) nd rfl (Or.inl rfl) (pe_op op_cat (pv 4) (pe_lc (own := [("place", 7)]) (g := gName 7) rfl nd (pi_range2 rfl T.g_range (pa_cons (pv 6) (pa_cons (pe_op op_add (pv 6) (pv 2)) pa_nil))) (blkOk_by (own := [("place", 7)]) (N := ["row", "count", "wide", "gone", "waiting", "turn", "first", "place", "best"]) (sc := (defScope s__law_walked)) (by decide +kernel)) (fun _ _ _ _ _ => pg_name (i := 7) nd rfl (Or.inl rfl)) (fun _ _ _ _ _ => pts_one (pt_cmpR op_lt (pv 7) (pe_callB (r := rLn K) call_len_seq (by rfl) T.g_len PySem.boot_len (pa_cons (pv 0) pa_nil)) (nomark _))) (fun _ _ _ _ _ => (pv 7))))))) pss_nil)
      (pss_cons (ps_set (i := 8) nd rfl (Or.inr rfl) (pe_ix (r := rIxL K) ix_list (pv 4) pe_int (fun _ _ => rfl)))
      (C8.pss_cut (ps_for PassesOwn.never rfl (pi_list (pv 4)) (pg_name (i := 7) nd rfl (Or.inl rfl)) (pss_one (ps_if (pt_cmpR (op_ltT hu0) (pe_tup (pa_cons (pe_ix (r := rIxT K) ix_tup (pv 0) (pv 7) (fun _ _ => rfl)) (pa_cons (pv 7) pa_nil))) (pe_tup (pa_cons (pe_ix (r := rIxT K) ix_tup (pv 0) (pv 8) (fun _ _ => rfl)) (pa_cons (pv 8) pa_nil))) (nomark _)) (pss_one (ps_set (i := 8) nd rfl (Or.inr rfl) (pv 7))) pss_nil)))
      (C8.pss_cut (ps_setLc (i := 4) (own := [("place", 7)]) (g := gName 7) rfl nd rfl rfl (sw_true rfl rfl rfl (by decide +kernel)) (pi_list (pv 4)) (blkOk_by (own := [("place", 7)]) (N := ["row", "count", "wide", "gone", "waiting", "turn", "first", "place", "best"]) (sc := (defScope s__law_walked)) (by decide +kernel)) (fun _ _ _ _ _ => pg_name (i := 7) nd rfl (Or.inl rfl)) (fun _ _ _ _ _ => pts_one (pt_cmpR op_ne (pv 7) (pv 8) (nomark _))) (fun _ _ _ _ _ => (pv 7)))
      (pss_one (ps_expr (pe_bm PySem.F.plainAttrs_list PySem.F.slot_list_append PySem.F.type_list_append mt_append (pv 3) (pa_cons (pv 8) pa_nil)))))))))
      (pss_one (ps_ret (pe_tup (pa_cons (pe_callTy call_tuple_of (by rfl) T.g_tuple (by decide +kernel) (pa_cons (pv 3) pa_nil)) (pa_cons (pe_callTy call_tuple_of (by rfl) T.g_tuple (by decide +kernel) (pa_cons (pe_callB cr_sortedI (by rfl) T.g_sorted (by decide +kernel) (pa_cons (pv 4) pa_nil)) pa_nil)) pa_nil))))))), ?_⟩
    refine ⟨fun σ' H' => ∃ D W : Addr, σ' = [some (.ref r), some (.int c), some (.int w), some (.ref D), some (.ref W), none, none, none, none] ∧ FrN H D W ∧ FrS H H' D W [] ((List.range n).take 1), ?_, ?_⟩
    · refine ⟨Nat.zero_le _, fun D nD => ?_⟩
      have s0 := Same.up (o := .lst []) nD
      have eD := upd_same (H := H) (a := D) (o := .lst [])
      generalize upd H D (.lst []) = G0 at s0 eD
      refine ⟨_, rfl, by show 0 ≤ sizeLine; decide, fun e ne => ?_⟩
      have s1 := s0.trans (Same.up (o := .tup []) ne)
      have eD1 := (Same.up (o := .tup []) ne) _ _ eD
      refine ⟨.tuple (ks.map PyData.int), .tuple (([] : List Int).map PyData.int), .tup (SqT.sm s1 hr1) (ints_dp _ _ _), .tup (SqT.of upd_same) .nil, ints_shT _, ints_shT _, _, rfl, ?_⟩
      rw [ints_eqv]
      generalize upd G0 e (.tup []) = G1 at s1 eD1
      by_cases hz : ks = []
      · rw [decide_eq_true hz]
        have : n = 0 := by rw [← en, hz]; rfl
        subst this
        refine iteF ⟨Nat.zero_le _, fun W nW => ⟨_, _, rfl, D, W, rfl, ⟨nD, s1.free nW, ne_of_none eD1 nW⟩, ⟨s1.trans (Same.up nW), (Same.up nW) _ _ eD1, upd_same⟩⟩⟩
      · rw [decide_eq_false hz]
        have hn0 : n ≠ 0 := fun z => hz (List.length_eq_zero_iff.mp (by omega))
        have e1 : (List.range n).take 1 = [0] := by
          obtain ⟨m, rfl⟩ : ∃ m, n = m + 1 := ⟨n - 1, by omega⟩
          rw [List.range_succ_eq_map]
          rfl
        rw [e1]
        refine iteT ⟨by show 1 ≤ sizeLine; decide, fun W nW => ⟨_, _, rfl, D, W, rfl, ⟨nD, s1.free nW, ne_of_none eD1 nW⟩, ⟨s1.trans (Same.up nW), (Same.up nW) _ _ eD1, upd_same⟩⟩⟩
    rintro σ' H1 ⟨D, W, rfl, hN, f1⟩
    refine ⟨fun σ' H' => ∃ (W : Addr) (x5 x6 x7 x8 : Option V), σ' = [some (.ref r), some (.int c), some (.int w), some (.ref D), some (.ref W), x5, x6, x7, x8] ∧ FrS H H' D W (stF n w ks c).1 (stF n w ks c).2, ?_, ?_⟩
    · refine ⟨_, rfl, _, rfl, by omega, by omega, ?_⟩
      rw [Int.toNat_natCast]
      refine for_it (walk_range (lo := 0) (n := c)) (fun k σ' H' => ∃ (W : Addr) (x5 x6 x7 x8 : Option V), σ' = [some (.ref r), some (.int c), some (.int w), some (.ref D), some (.ref W), x5, x6, x7, x8] ∧ FrN H D W ∧ FrS H H' D W (stF n w ks k).1 (stF n w ks k).2)
        ⟨W, none, none, none, none, rfl, hN, f1⟩ (fun _ _ _ _ _ => trivial) ?_ ?_
      · rintro k y σ' H2 H3 hk ⟨W, x5, x6, x7, x8, rfl, hN, f3⟩ ⟨rfl, ey⟩
        obtain rfl : y = V.int (k : Nat) := by
          rw [ey]
          show V.int (0 + (k : Int)) = _
          rw [Int.zero_add]
        have hbest := fr_w hw.1 hh (show k < n by omega)
        have I := fr_ok hw.1 hh k (by omega)
        have est1 : (stF n w ks (k + 1)).1 = (stF n w ks k).1 ++ [bestL ks (wkL n w (stF n w ks k).1 (stF n w ks k).2)] := rfl
        have est2 : (stF n w ks (k + 1)).2 = (wkL n w (stF n w ks k).1 (stF n w ks k).2).erase (bestL ks (wkL n w (stF n w ks k).1 (stF n w ks k).2)) := rfl
        rw [est1, est2]
        clear est1 est2
        have ewk : wkL n w (stF n w ks k).1 (stF n w ks k).2 = if (stF n w ks k).1 = [] then (stF n w ks k).2 else (stF n w ks k).2 ++ kidL n w ((stF n w ks k).1.getD ((stF n w ks k).1.length - 1) 0) := rfl
        have hgl : (stF n w ks k).1.length = k := I.len
        generalize (stF n w ks k).1 = g at *
        generalize (stF n w ks k).2 = l at *
        generalize wkL n w g l = wk at *
        have hbd : bestL ks wk = bestF ks (wk.getD 0 0) wk := rfl
        generalize bestL ks wk = b at *
        have hwn : ∀ p ∈ wk, p < n := fun p hp => ((I.mem p).mp hp).1
        have hwl : wk.length ≤ 12 := by
          have := len_le_of_sub I.wnd (b := List.range n) fun p hp => List.mem_range.mpr (hwn p hp)
          rw [List.length_range] at this
          omega
        refine ⟨fun σ' H' => ∃ (W : Addr) (x6 : Option V), σ' = [some (.ref r), some (.int c), some (.int w), some (.ref D), some (.ref W), some (.int k), x6, x7, x8] ∧ FrN H D W ∧ FrS H H' D W g wk, ?_, ?_⟩
        · refine ⟨_, rfl, Nat.zero_le _, fun l0 n0 => ?_⟩
          have f4 := f3.up (Same.up (o := .lst []) n0)
          refine ⟨.list ((zl g).map PyData.int), .list [], .lst (SqL.of f4.eT) (ints_dp _ _ _), .lst (SqL.of upd_same) .nil, shaped_ints _, rfl, _, rfl, ?_⟩
          rw [emp_eqv]
          generalize upd H3 l0 (.lst []) = G4 at f4
          by_cases hg : g = []
          · rw [decide_eq_true (show zl g = [] by rw [hg]; rfl)]
            refine iteF ⟨W, x6, rfl, hN, ?_⟩
            rw [ewk, if_pos hg]
            exact f4
          · rw [decide_eq_false (show ¬ zl g = [] from fun z => hg (List.map_eq_nil_iff.mp z))]
            have hi : g.getD (g.length - 1) 0 < n := by
              have := List.length_pos_iff.mpr hg
              rw [getD_at (by omega)]
              exact I.lt _ (List.getElem_mem _)
            have hla := last_at hg
            generalize g.getD (g.length - 1) 0 = last at *
            have ef : ((w : Int) * (last : Nat) + 1) = ((w * last + 1 : Nat) : Int) := by push_cast; rfl
            refine iteT ⟨fun σ' H' => σ' = [some (.ref r), some (.int c), some (.int w), some (.ref D), some (.ref W), some (.int k), some (.int (w * last + 1 : Nat)), x7, x8] ∧ H' = G4, ?_, ?_⟩
            · refine ⟨_, rfl, _, rfl, _, rfl, D, _, _, _, rfl, rfl, SqL.of f4.eT, hla, _, _, rfl, rfl, .inl ⟨by omega, by omega⟩, _, _, rfl, rfl, ?_, rfl⟩
              show [some (V.ref r), some (V.int c), some (V.int w), some (V.ref D), some (V.ref W), some (V.int k), some (V.int ((w : Int) * (last : Nat) + 1)), x7, x8] = _
              rw [ef]
            rintro σ' G5 ⟨rfl, rfl⟩
            have hwl2 : w * last ≤ 4 * 12 := Nat.mul_le_mul hw.2 (by omega)
            obtain ⟨first, efi⟩ : ∃ first, first = w * last + 1 := ⟨_, rfl⟩
            rw [← efi]
            have hkl := kid_law n (by omega) w (by omega) last hi hw.1
            rw [← efi] at hkl
            refine ⟨_, rfl, _, rfl, _, rfl, _, rfl, _, _, rfl, rfl, _, _, rfl, ⟨by omega, by omega, by omega, by omega⟩, fun D2 nD2 => ?_⟩
            rw [show (((first : Nat) : Int) + (w : Int) - ((first : Nat) : Int)).toNat = w by omega]
            have f5 := f4
            refine lc_it (walk_range (lo := ((first : Nat) : Int)) (n := w)) (PickI G5 D2 ((List.range w).map fun j => first + j) fun z => if decide (z < n) = true then some (V.int (z : Nat)) else none) (pick_start nD2) (fun _ _ _ _ => trivial) ?_ ?_
            · rintro j x H5 H6 hj pk ⟨rfl, ex⟩
              have hj2 : j < ((List.range w).map fun j => first + j).length := by rw [List.length_map, List.length_range]; exact hj
              have el : ((List.range w).map fun j => first + j)[j] = first + j := by rw [List.getElem_map, List.getElem_range]
              obtain rfl : x = V.int ((first + j : Nat) : Int) := by
                rw [ex]
                push_cast
                rfl
              have hrr := SqT.sm pk.s (SqT.sm f5.s hr1)
              refine ⟨rfl, _, rfl, _, rfl, r, _, rfl, .inr hrr, _, _, rfl, rfl, _, rfl, ?_⟩
              rw [List.length_map, en]
              by_cases h : first + j < n
              · rw [decide_eq_true (show ((first + j : Nat) : Int) < (n : Nat) by omega)]
                exact iteT ⟨_, rfl, pick_yes hj2 (by rw [List.length_map, List.length_range]; omega) (by rw [el, if_pos (decide_eq_true h)]) (Same.refl _) pk⟩
              · rw [decide_eq_false (show ¬ ((first + j : Nat) : Int) < (n : Nat) by omega)]
                exact iteF (pick_no hj2 (by rw [el, if_neg (fun z => h (of_decide_eq_true z))]) (Same.refl _) pk)
            · intro G pk
              have aL := pick_end (by rw [List.length_map, List.length_range]) pk
              rw [pickN_map, hkl] at aL
              have f6 := f5.up aL.s
              have hwk2 := hwl
              rw [ewk, if_neg hg, List.length_append] at hwk2
              refine ⟨W, D2, _, _, rfl, rfl, f6.eW, aL.a, Nat.le_of_lt (small1000 (by rw [List.length_map, List.length_map, zl_len, zl_len]; omega)), fun W2 nW2 => ?_⟩
              refine ⟨W2, _, rfl, ⟨hN.nT, (f6.s.trans (Same.refl _)).free nW2, ne_of_none f6.eT nW2⟩, ⟨f6.s.trans (Same.up nW2), (Same.up nW2) _ _ f6.eT, ?_⟩⟩
              rw [upd_same, ewk, if_neg hg, zl_app, List.map_append]
        rintro σ' H4 ⟨W, x6, rfl, hN, f4⟩
        clear f3
        have hne : wk ≠ [] := List.ne_nil_of_mem hbest.1
        have hpos := List.length_pos_iff.mpr hne
        have h0 : wk.getD 0 0 = wk[0] := getD_at hpos
        have hbi : ∀ i, bestF ks (wk.getD 0 0) (wk.take i) < n := fun i => by
          rcases (bestF_ok ks (wk.take i) (wk.getD 0 0)).1 with h | h
          · rw [h, h0]
            exact hwn _ (List.getElem_mem _)
          · exact hwn _ (List.mem_of_mem_take h)
        refine ⟨_, rfl, W, _, _, V.int (wk[0] : Nat), rfl, rfl, SqL.of f4.eW, ?_, ?_⟩
        · exact zl_first hpos
        refine ⟨fun σ' H' => ∃ x7 : Option V, σ' = [some (.ref r), some (.int c), some (.int w), some (.ref D), some (.ref W), some (.int k), x6, x7, some (.int b)] ∧ FrS H H' D W g wk, ?_, ?_⟩
        · refine ⟨_, rfl, W, rfl, ⟨_, SqL.of f4.eW⟩, for_it (walk_list (xs := (zl wk).map V.int)) (fun i σ' H' => ∃ x7 : Option V, σ' = [some (.ref r), some (.int c), some (.int w), some (.ref D), some (.ref W), some (.int k), x6, x7, some (.int (bestF ks (wk.getD 0 0) (wk.take i) : Nat))] ∧ FrS H H' D W g wk)
            ⟨x7, by rw [h0]; rfl, f4⟩ (fun i σ' H' _ ⟨_, _, f⟩ => SqL.of f.eW) ?_ ?_⟩
          · rintro i x σ' G1o G1 hi ⟨x7, rfl, f5⟩ ⟨rfl, hx⟩
            rw [List.length_map, zl_len] at hi
            rw [zl_get hi] at hx
            cases hx
            have hpn := hwn _ (List.getElem_mem hi)
            have hqn := hbi i
            have hr5 := SqT.sm f5.s hr1
            have e6 : bestF ks (wk.getD 0 0) (wk.take (i + 1)) = if aheadB ks wk[i] (bestF ks (wk.getD 0 0) (wk.take i)) = true then wk[i] else bestF ks (wk.getD 0 0) (wk.take i) := by
              rw [← List.take_append_getElem hi, bestF_snoc]
            rw [e6]
            generalize wk[i] = p at *
            generalize bestF ks (wk.getD 0 0) (wk.take i) = u at *
            refine ⟨_, rfl, _, rfl, r, _, _, _, rfl, rfl, hr5, key_at (p := p) (by omega), _, rfl, by show 2 ≤ sizeLine; decide, fun t1 nt1 => ?_⟩
            have s6 := Same.up (o := .tup [V.int (keyAt ks p), V.int (p : Nat)]) nt1
            have et1 := upd_same (H := G1) (a := t1) (o := .tup [V.int (keyAt ks p), V.int (p : Nat)])
            generalize upd G1 t1 (.tup [V.int (keyAt ks p), V.int (p : Nat)]) = G2 at s6 et1
            refine ⟨_, rfl, _, rfl, r, _, _, _, rfl, rfl, SqT.sm s6 hr5, key_at (p := u) (by omega), _, rfl, by show 2 ≤ sizeLine; decide, fun t2 nt2 => ?_⟩
            have s7 := Same.up (o := .tup [V.int (keyAt ks u), V.int (u : Nat)]) nt2
            have et2 := upd_same (H := G2) (a := t2) (o := .tup [V.int (keyAt ks u), V.int (u : Nat)])
            generalize upd G2 t2 (.tup [V.int (keyAt ks u), V.int (u : Nat)]) = G3 at s7 et2
            refine ⟨t1, t2, pairK ks p, pairK ks u, rfl, rfl, SqT.of (s7 _ _ et1), SqT.of et2, _, rfl, ?_⟩
            rw [lex_ahead]
            by_cases h : aheadB ks p u = true
            · rw [h]
              exact iteT ⟨_, rfl, _, rfl, f5.up (s6.trans s7)⟩
            · rw [Bool.not_eq_true] at h
              rw [h]
              exact iteF ⟨_, rfl, f5.up (s6.trans s7)⟩
          · rintro σ' G1 ⟨x7, rfl, f5⟩
            refine ⟨x7, ?_, f5⟩
            rw [List.length_map, zl_len, List.take_length, ← hbd]
        rintro σ' H5 ⟨x7, rfl, f5⟩
        refine ⟨fun σ' H' => ∃ W : Addr, σ' = [some (.ref r), some (.int c), some (.int w), some (.ref D), some (.ref W), some (.int k), x6, x7, some (.int b)] ∧ FrN H D W ∧ FrS H H' D W g (wk.erase b), ?_, ?_⟩
        · refine ⟨_, rfl, W, rfl, ⟨_, SqL.of f5.eW⟩, fun D2 nD2 => ?_⟩
          refine lc_it (walk_list (xs := (zl wk).map V.int)) (PickI H5 D2 wk fun z => if (z != b) = true then some (V.int (z : Nat)) else none) (pick_start nD2) (fun j H' _ p => SqL.of (p.s _ _ f5.eW)) ?_ ?_
          · rintro j x H6 H7 hj pk ⟨rfl, hx⟩
            rw [List.length_map, zl_len] at hj
            rw [zl_get hj] at hx
            cases hx
            refine ⟨rfl, _, rfl, _, rfl, rfl, _, rfl, ?_⟩
            by_cases h : wk[j] = b
            · refine ite_b (c := false) (by rw [h, decide_eq_true rfl]; rfl) (iteF (pick_no hj (by rw [if_neg (by rw [h]; simp)]) (Same.refl _) pk))
            · refine ite_b (c := true) (by rw [decide_eq_false (fun z => h (by injection z with z; exact Int.ofNat.inj z))]; rfl) (iteT ⟨_, rfl, pick_yes hj (by omega) (by rw [if_pos (by simp [h])]) (Same.refl _) pk⟩)
          · intro G pk
            have aL := pick_end (by rw [List.length_map, zl_len]) pk
            rw [pickN_map] at aL
            have f6 := f5.up aL.s
            refine ⟨D2, rfl, ⟨hN.nT, f5.s.free nD2, ne_of_none f5.eT nD2⟩, ⟨f6.s, f6.eT, ?_⟩⟩
            rw [aL.a, I.wnd.erase_eq_filter]
        rintro σ' H6 ⟨W2, rfl, hN2, f6⟩
        refine ⟨_, rfl, .inl ⟨rfl, _, SqL.of f6.eT⟩, _, rfl, D, _, _, rfl, rfl, f6.eT, small1000 (by rw [List.length_map, zl_len]; omega), ?_⟩
        refine ⟨W2, _, _, _, _, rfl, hN2, f6.setT hN2 ?_⟩
        rw [zl_app, List.map_append]
        rfl
      · rintro σ' H2 ⟨W, x5, x6, x7, x8, rfl, _, f3⟩
        exact ⟨W, x5, x6, x7, x8, rfl, f3⟩
    rintro σ' H2 ⟨W, x5, x6, x7, x8, rfl, f3⟩
    refine ⟨_, rfl, D, _, rfl, .inl ⟨SqL.of f3.eT, fun t1 nt1 => ?_⟩⟩
    have f4 := f3.up (Same.up (o := .tup ((zl (stF n w ks c).1).map V.int)) nt1)
    have e1 := upd_same (H := H2) (a := t1) (o := .tup ((zl (stF n w ks c).1).map V.int))
    generalize upd H2 t1 (.tup ((zl (stF n w ks c).1).map V.int)) = H4 at f4 e1
    refine ⟨_, rfl, W, _, rfl, SqL.of f4.eW, fun ws o hpm hso no => ?_⟩
    have s5 := Same.up (o := .lst (ws.map V.int)) no
    refine ⟨o, _, rfl, .inl ⟨SqL.of upd_same, fun t2 nt2 => ?_⟩⟩
    have s6 := Same.up (o := .tup (ws.map V.int)) nt2
    refine ⟨by show 2 ≤ sizeLine; decide, fun t nt => ?_⟩
    have s7 := Same.up (o := .tup [V.ref t1, V.ref t2]) nt
    exact q _ t t1 t2 ws (f4.s.trans (s5.trans (s6.trans s7))) upd_same ((s5.trans (s6.trans s7)) _ _ e1) (s7 _ _ upd_same) hpm hso
theorem b_lwk (T : Tx K mg A) : L2.Binds K A.d__law_walked ["row", "count", "wide"] [] := T.F__law_walked.binds fun _ _ _ _ _ _ us hl => match us, hl with | [_, _, _], _ => rfl

end
end Tw

set_option Elab.async false
set_option linter.all false
set_option maxRecDepth 100000
set_option maxHeartbeats 2000000
namespace Tw
open PySem PySem.Spec PyProof.Rows L2
section
variable {P : Program} {w : World} {K : PySem.W.Frag} {mg : Str → Option Value} {base : Heap} {A : Ad}
open LamX (ExtN Tabs TabS)
theorem heap_fault {n w : Nat} {ks : List Int} (hl : ks.length = n) (h : HeapL n w ks) : faultL ks w = [] := by
  refine List.eq_nil_iff_forall_not_mem.mpr fun p hp => ?_
  unfold faultL at hp
  obtain ⟨h1, h2⟩ := List.mem_filter.mp hp
  unfold faultB at h2
  obtain ⟨h3, h4⟩ := Bool.and_eq_true_iff.mp h2
  have h1 := List.mem_range.mp h1
  have h3 := of_decide_eq_true h3
  have h4 := of_decide_eq_true h4
  have := h p (by omega) (by omega)
  unfold keyAt at this
  omega
theorem ints_eqvL (a b : List Int) : PyData.eqv (.list (a.map PyData.int)) (.list (b.map PyData.int)) = decide (a = b) := by
  rw [← ints_all]
  simp [PyData.eqv]
theorem q5 : ¬ (("changes" : Str) = "looks") := by decide +kernel
end
end Tw

set_option Elab.async false
set_option linter.all false
set_option maxRecDepth 100000
set_option maxHeartbeats 2000000
namespace Tw
open PySem PySem.Spec PyProof.Rows L2
section
variable {P : Program} {w : World} {K : PySem.W.Frag} {mg : Str → Option Value} {base : Heap} {A : Ad}
open LamX (ExtN Tabs TabS)
/-! the law's own: _law_right -/
theorem kfr (T : Tx K mg A) : ∃ mv : List Value, KBn K A.d_front ["row", "count", "arms"] 2 ["arms"] (fun us ws => us ++ (mv ++ ws)) (fun vs zs => vs ++ zs) := by
  obtain ⟨mv, h⟩ := T.F_front.kbinds0 (ps := ["row", "count", "arms"]) 2 ["arms"] [] (fun us mv ws => us ++ (mv ++ ws)) (by simp) (by simp) (fun r1 r2 r3 => r1.append (r2.append r3))
    (fun D doc pm an cdv ct us mv ws h1 h2 h3 => by
      match us, mv, ws, h1, h2, h3 with
      | [a, b], [], [e], _, _, _ => rfl)
  exact ⟨mv, h⟩
theorem eqF_at {C : Addr} {H : Hp} {a b : Addr} {x y x2 y2 : List Int} {Q : VK} {E : XK} (h1 : AtF C H a x y) (h2 : AtF C H b x2 y2) {r : Bool} (hr : decide (x = x2 ∧ y = y2) = r) (q : Q (.bl r) H) : spEF K C [.ref a, .ref b] H Q E := ⟨a, _, x, y, rfl, h1, .inl ⟨b, x2, y2, rfl, h2, hr ▸ q⟩⟩
theorem st_len {n w k : Nat} {ks : List Int} (hw : 1 ≤ w) (hh : HeapL n w ks) (hk : k ≤ n) : (stF n w ks k).2.length ≤ n := by
  have I := fr_ok hw hh k hk
  have h := len_le_of_sub I.wnd (b := List.range n) fun p hp => List.mem_range.mpr ((I.mem p).mp hp).1
  rw [List.length_range] at h
  unfold wkL at h
  split at h
  · exact h
  · rw [List.length_append] at h
    omega
theorem fm_map {α β : Type} (f : α → β) : ∀ l : List α, l.filterMap (fun z => some (f z)) = l.map f
  | [] => rfl
  | a :: l => by rw [List.filterMap_cons, List.map_cons, fm_map f l]
def spLrt : Sp := fun vs H Q _ => ∃ (r w : Nat) (ks : List Int), vs = [.ref r, .int w] ∧ (1 ≤ w ∧ w ≤ 4) ∧ H r = some (.tup (ks.map V.int)) ∧ ks.length ≤ 12 ∧ (∀ n ∈ ks, -1000000000 ≤ n ∧ n ≤ 1000000000) ∧ HeapL ks.length w ks ∧ ∀ H', Same H H' → Q (.bl true) H'
theorem ok_lrt (T : Tx K mg A) : FnOk P w K mg base CX0 11 A.f__law_right A.d__law_right ["row", "wide"] spLrt := by
  obtain ⟨mf, kfr⟩ := kfr T
  obtain ⟨ml, klks⟩ := klks T
  refine T.F__law_right.ok sc__law_right (fun vs H Q E h => ?_) (fun cdv B outer s H vs Q E hr h => ?_)
  · obtain ⟨r, w, ks, rfl, _⟩ := h
    rfl
  · obtain ⟨r, w, ks, rfl, hw, er, hk12, hkb, hh, q⟩ := h
    have nd := sc__law_right.nd
    have hu := hr.units
    have hflt : faultL ks w = [] := heap_fault rfl hh
    generalize en : ks.length = n at *
    refine ⟨_, (C8.pss_cut (ps_for PassesOwn.never rfl (pi_range1 rfl T.g_range (pa_cons (pe_op op_add (pe_callB call_len_seq (by rfl) T.g_len PySem.boot_len (pa_cons (pv 0) pa_nil)) pe_int) pa_nil)) (pg_name (i := 2) nd rfl (Or.inl rfl)) (C8.pss_cut (ps_asg (pe_call (ok_lwk T) (hr.mono (by decide)) (by rfl) T.m__law_walked T.F__law_walked.kp (b_lwk T) .nil pass0 (pa_cons (pv 0) (pa_cons (pv 2) (pa_cons (pv 1) pa_nil)))) (pg_tup rfl (pgs_cons (pg_name (i := 3) nd rfl (Or.inl rfl)) (pgs_cons (pg_name (i := 4) nd rfl (Or.inl rfl)) pgs_nil))))
      (C8.pss_cut (ps_set (i := 5) nd rfl (Or.inl rfl) (pe_callN (ok_fr T) (hr.mono (by decide)) (by rfl) T.m_front T.F_front.kp kfr pass0 (pa_cons (pv 0) (pa_cons (pv 2) pa_nil)) (pk_cons (pv 1) pk_nil)))
      (C8.pss_cut (ps_if (PW.pt (pw_or (pt_not (pt_val (pe_callB call_isi (by rfl) T.g_isinstance (by decide +kernel) (pa_cons (pv 5) (pa_cons (pe_glob (v := .ref A.CF) (by rfl) T.mCF (relR _)) pa_nil))))) (pw_or (pt_cmpR (op_neD hu) (pe_fld (pv 5) rfl) (pv 3) (nomark _)) (pw_or1 (pt_cmpR (op_neD hu) (pe_fld (pv 5) rfl) (pv 4) (nomark _)))))) (pss_one (ps_ret pe_bl)) pss_nil)
      (C8.pss_cut (ps_if (PW.pt (pw_or (pt_not (pt_cmpR (op_eq_own T.eqcF (ok_eF T) (hr.mono (by decide)) (b_eF T) pass0) (pv 5) (pe_callN (ok_fr T) (hr.mono (by decide)) (by rfl) T.m_front T.F_front.kp kfr pass0 (pa_cons (pe_callTy call_list_of (by rfl) T.g_list (by decide +kernel) (pa_cons (pv 0) pa_nil)) (pa_cons (pv 2) pa_nil)) (pk_cons (pv 1) pk_nil)) (nomark _))) (pw_or1 (pt_cmpR op_ne (pe_callB (call_len_own T.D_f___len__ (ok_flen T) (hr.mono (by decide)) (b_flen T) pass0) (by rfl) T.g_len PySem.boot_len (pa_cons (pv 5) pa_nil)) (pe_op op_add (pe_callB call_len_seq (by rfl) T.g_len PySem.boot_len (pa_cons (pv 3) pa_nil)) (pe_callB call_len_seq (by rfl) T.g_len PySem.boot_len (pa_cons (pv 4) pa_nil))) (nomark _))))) (pss_one (ps_ret pe_bl)) pss_nil)
      (C8.pss_cut (ps_set (i := 6) nd rfl (Or.inl rfl) (pe_callN (ok_lks T) (hr.mono (by decide)) (by rfl) T.m_least_keys T.F_least_keys.kp klks pass0 (pa_cons (pv 0) (pa_cons (pv 2) pa_nil)) (pk_cons (pv 1) pk_nil)))
      (C8.pss_cut (ps_if (PW.pt (pw_or (pt_cmpR (op_neD hu) (pv 6) (pe_slice (r := rSlL K) sl_list (pe_callB cr_sortedTu (by rfl) T.g_sorted (by decide +kernel) (pa_cons (pv 0) pa_nil)) po_none (po_some (pv 2))) (nomark _)) (pw_or (pt_not (pt_val (pe_callB call_isi (by rfl) T.g_isinstance (by decide +kernel) (pa_cons (pv 6) (pa_cons (pe_bltn (v := .ty "list") (by rfl) T.g_list (by decide +kernel) rfl) pa_nil))))) (pw_or1 (pt_cmpR (op_neD hu) (pe_callB cr_sortedI (by rfl) T.g_sorted (by decide +kernel) (pa_cons (pe_lc (own := [("place", 7)]) (g := gName 7) (tt := tYes) rfl nd (pi_tup (pv 3)) (blkOk_by (own := [("place", 7)]) (N := ["row", "wide", "count", "gone", "waiting", "found", "told", "place"]) (sc := (defScope s__law_right)) (by decide +kernel)) (fun _ _ _ _ _ => pg_name (i := 7) nd rfl (Or.inl rfl)) (fun _ _ _ _ _ => pts_nil) (fun _ _ _ _ _ => (pe_ix (r := rIxT K) ix_tup (pv 0) (pv 7) (fun _ _ => rfl)))) pa_nil)) (pv 6) (nomark _)))))) (pss_one (ps_ret pe_bl)) pss_nil)
      (pss_cons (ps_expr (pe_bm PySem.F.plainAttrs_list PySem.F.slot_list_append PySem.F.type_list_append mt_append (pv 6) (pa_cons pe_int pa_nil)))
      (pss_one (ps_if (pt_cmpR (op_neD hu) (pe_callN (ok_lks T) (hr.mono (by decide)) (by rfl) T.m_least_keys T.F_least_keys.kp klks pass0 (pa_cons (pe_callTy call_list_of (by rfl) T.g_list (by decide +kernel) (pa_cons (pv 0) pa_nil)) (pa_cons (pv 2) pa_nil)) (pk_cons (pv 1) pk_nil)) (pe_slice (r := rSlL K) sl_list (pe_callB cr_sortedTu (by rfl) T.g_sorted (by decide +kernel) (pa_cons (pv 0) pa_nil)) po_none (po_some (pv 2))) (nomark _)) (pss_one (ps_ret pe_bl)) pss_nil))))))))))
      (pss_one (ps_ret pe_bl))), ?_⟩
    refine ⟨fun σ' H' => Same H H', ?_, fun σ' H' s => q H' s⟩
    refine ⟨_, rfl, r, _, rfl, .inr (SqT.of er), _, _, rfl, rfl, _, rfl, by rw [List.length_map]; omega, by rw [List.length_map]; omega, ?_⟩
    rw [List.length_map, en, show (((n : Nat) : Int) + 1).toNat = n + 1 by omega]
    refine for_it (walk_range (lo := 0) (n := n + 1)) (fun c σ' H' => ∃ (x2 x3 x4 x5 x6 : Option V), σ' = [some (.ref r), some (.int w), x2, x3, x4, x5, x6, none] ∧ Same H H')
        ⟨none, none, none, none, none, rfl, Same.refl _⟩ (fun _ _ _ _ _ => trivial) ?_ (fun σ' H' ⟨_, _, _, _, _, _, s⟩ => s)
    rintro c y σ' H2 H3 hc ⟨x2, x3, x4, x5, x6, rfl, s3⟩ ⟨rfl, ey⟩
    obtain rfl : y = V.int (c : Nat) := by
      rw [ey]
      show V.int (0 + (c : Int)) = _
      rw [Int.zero_add]
    obtain ⟨gs, egs⟩ : ∃ gs, gs = (stF n w ks c).1 := ⟨_, rfl⟩
    have hgl : gs.length = c := by rw [egs]; exact (fr_ok hw.1 hh c (by omega)).len
    have hgn : ∀ p ∈ gs, p < n := by rw [egs]; exact (fr_ok hw.1 hh c (by omega)).lt
    -- walked
    refine ⟨fun σ' H' => ∃ (t1 t2 : Addr) (ws : List Int), σ' = [some (.ref r), some (.int w), some (.int c), some (.ref t1), some (.ref t2), x5, x6, none] ∧ Same H H' ∧ H' t1 = some (.tup ((zl gs).map V.int)) ∧ H' t2 = some (.tup (ws.map V.int)) ∧ ws.Perm (zl (stF n w ks c).2) ∧ ws.Pairwise (· ≤ ·), ?_, ?_⟩
    · refine ⟨_, rfl, _, rfl, _, rfl, r, c, w, ks, rfl, hw, SqT.of (s3 _ _ er), by omega, by rw [en]; exact hh, by omega, fun H4 t t1 t2 ws s4 et e1 e2 hpm hso => ?_⟩
      rw [en] at e1 hpm
      exact ⟨t, _, rfl, SqT.of et, rfl, _, _, rfl, _, _, rfl, rfl, t1, t2, ws, rfl, s3.trans s4, by rw [egs]; exact e1, e2, hpm, hso⟩
    rintro σ' H4 ⟨t1, t2, ws, rfl, s4, e1, e2, hpm, hso⟩
    -- found
    have hpc : ∀ {G : Hp} {a : Addr}, (Sq G a (ks.map V.int)) → HpC G a c w ks := fun h => ⟨hw, ⟨h, by omega, hkb⟩, hflt, by omega⟩
    refine ⟨fun σ' H' => ∃ q5 : Addr, σ' = [some (.ref r), some (.int w), some (.int c), some (.ref t1), some (.ref t2), some (.ref q5), x6, none] ∧ Same H4 H' ∧ AtF A.CF H' q5 (zl gs) ws, ?_, ?_⟩
    · refine ⟨_, rfl, _, rfl, _, rfl, rfl, rfl, r, c, w, ks, rfl, hpc (.inr (s4 _ _ er)), fun H5 q5 ws2 s5 hp2 hs2 at5 => ?_⟩
      rw [en] at hp2 at5
      have ew : ws2 = ws := sorted_one (hp2.trans hpm.symm) hs2 hso
      subst ew
      exact ⟨q5, rfl, s5, by rw [egs]; exact at5⟩
    rintro σ' H5 ⟨q5, rfl, s5, at5⟩
    have s5' := s4.trans s5
    have e1 := s5 _ _ e1
    have e2 := s5 _ _ e2
    clear s5
    generalize eS : ([some (.ref r), some (.int w), some (.int c), some (.ref t1), some (.ref t2), some (.ref q5), x6, none] : L2.St) = S0
    refine ⟨fun σ' H' => σ' = S0 ∧ H' = H5, ?_, ?_⟩
    · subst eS
      obtain ⟨dx, u0, u1, g, f0, f1⟩ := id at5
      refine ⟨_, rfl, _, _, .ref A.CF, .ref A.CF, true, rfl, .own A.CF, .base (.ins g T.cTF T.kaF T.knF T.ktkF T.kmF), (by unfold PySem.W.kitOne; rw [if_pos (by simp)]), true, rfl, iteF ?_⟩
      refine ⟨_, rfl, q5, A.CF, dx, _, _, rfl, g, T.cTF, T.fTaken, fdF_taken _ _, _, rfl, _, _, ints_tup K f0, ints_tup K e1, ints_shT _, ints_shT _, _, rfl, ?_⟩
      rw [ints_eqv, decide_eq_true rfl]
      refine iteF ⟨_, rfl, q5, A.CF, dx, _, _, rfl, g, T.cTF, T.fWait, fdF_waiting _ _, _, rfl, _, _, ints_tup K f1, ints_tup K e2, ints_shT _, ints_shT _, _, rfl, ?_⟩
      rw [ints_eqv, decide_eq_true rfl]
      exact iteF ⟨rfl, rfl⟩
    rintro σ' H6 ⟨eq, rfl⟩
    subst σ'
    refine ⟨fun σ' H' => σ' = S0 ∧ Same H6 H', ?_, ?_⟩
    · subst eS
      refine ⟨_, rfl, _, rfl, r, _, rfl, .inr (SqT.of (s5' _ _ er)), fun l nl => ?_⟩
      have s6 := Same.up (o := .lst (ks.map V.int)) nl
      refine ⟨_, rfl, _, rfl, rfl, rfl, l, c, w, ks, rfl, hpc (.inl upd_same), fun H8 q6 ws2 s8 hp2 hs2 at6 => ?_⟩
      rw [en] at hp2 at6
      have ew : ws2 = ws := sorted_one (hp2.trans hpm.symm) hs2 hso
      subst ew
      rw [← egs] at at6
      have s68 := s6.trans s8
      have at58 := at5.same s68
      obtain ⟨d1, f1, g1⟩ := at58.ins
      obtain ⟨d2, f2, g2⟩ := at6.ins
      refine ⟨q5, d1, f1, rfl, g1, .ins g2, eqF_at at58 at6 (decide_eq_true ⟨rfl, rfl⟩) ?_⟩
      refine ⟨_, rfl, _, rfl, iteF ?_⟩
      have hwl : ws2.length ≤ 12 := by
        rw [hpm.length_eq, zl_len]
        have := st_len hw.1 hh (show c ≤ n by omega)
        omega
      refine ⟨_, rfl, q5, d1, f1, rfl, g1, q5, zl gs, ws2, rfl, at58, by rw [zl_len]; omega, fun H9 s9 => ⟨_, rfl, by rw [zl_len]; omega, ?_⟩⟩
      refine ⟨_, rfl, t1, _, rfl, .inr (SqT.of (s9 _ _ (s68 _ _ e1))), _, rfl, t2, _, rfl, .inr (SqT.of (s9 _ _ (s68 _ _ e2))), _, _, rfl, rfl, rfl, _, rfl, ?_⟩
      refine ite_b (c := false) ?_ (iteF ⟨rfl, s68.trans s9⟩)
      rw [List.length_map, List.length_map, decide_eq_true (by push_cast; rfl)]
      rfl
    rintro σ' H7 ⟨eq, s7⟩
    subst σ'
    subst eS
    have s8 := s5'.trans s7
    have e18 := s7 _ _ e1
    refine ⟨fun σ' H' => ∃ (q6 : Addr) (s : List Int), σ' = [some (.ref r), some (.int w), some (.int c), some (.ref t1), some (.ref t2), some (.ref q5), some (.ref q6), none] ∧ Same H7 H' ∧ H7 q6 = none ∧ s.Perm ks ∧ s.Pairwise (· ≤ ·) ∧ H' q6 = some (.lst ((s.take c).map V.int)), ?_, ?_⟩
    · refine ⟨_, rfl, _, rfl, _, rfl, rfl, rfl, r, c, w, ks, rfl, hpc (.inr (s8 _ _ er)), fun H8 q6 s s9 n6 hp6 hs6 e6 => ⟨q6, s, rfl, s9, n6, hp6, hs6, e6⟩⟩
    rintro σ' H8 ⟨q6, s, rfl, s9, n6, hp6, hs6, e6⟩
    have e19 := s9 _ _ e18
    have er9 := s9 _ _ (s8 _ _ er)
    generalize eS : ([some (.ref r), some (.int w), some (.int c), some (.ref t1), some (.ref t2), some (.ref q5), some (.ref q6), none] : L2.St) = S0
    refine ⟨fun σ' H' => σ' = S0 ∧ Same H8 H', ?_, ?_⟩
    · subst eS
      refine ⟨_, rfl, _, rfl, r, ks, rfl, SqT.of er9, fun ns o hpm2 hso2 no => ?_⟩
      obtain rfl : ns = s := sorted_one (hpm2.trans hp6.symm) hso2 hs6
      have s10 := Same.up (o := .lst (ns.map V.int)) no
      refine ⟨_, rfl, _, rfl, o, _, rfl, SqL.of upd_same, fun p2 np2 => ?_⟩
      rw [icut]
      have s11 := s10.trans (Same.up (o := .lst ((ns.take c).map V.int)) np2)
      have ep2 := upd_same (H := upd H8 o (.lst (ns.map V.int))) (a := p2) (o := .lst ((ns.take c).map V.int))
      generalize upd (upd H8 o (.lst (ns.map V.int))) p2 (.lst ((ns.take c).map V.int)) = G at s11 ep2
      have e6' := s11 _ _ e6
      refine ⟨.list ((ns.take c).map PyData.int), .list ((ns.take c).map PyData.int), .lst (SqL.of e6') (ints_dp _ _ _), .lst (SqL.of ep2) (ints_dp _ _ _), shaped_ints _, shaped_ints _, _, rfl, ?_⟩
      rw [ints_eqvL, decide_eq_true rfl]
      refine iteF ⟨_, rfl, _, _, .type "list", .type "list", true, rfl, .ty "list", .base (.lst e6'), kit_ty (by decide +kernel), true, rfl, iteF ?_⟩
      have e19' := s11 _ _ e19
      refine ⟨_, rfl, t1, rfl, ⟨_, SqT.of e19'⟩, fun D2 nD2 => ?_⟩
      refine lc_it (walk_tup (xs := (zl gs).map V.int)) (PickI G D2 gs fun p => some (V.int (keyAt ks p))) (pick_start nD2) (fun j H' _ p => SqT.of (p.s _ _ e19')) ?_ ?_
      · rintro j x H6 H7 hj pk ⟨rfl, hx⟩
        rw [List.length_map, zl_len] at hj
        rw [zl_get hj] at hx
        cases hx
        have hpn := hgn _ (List.getElem_mem hj)
        exact ⟨rfl, _, rfl, _, rfl, r, _, _, _, rfl, rfl, SqT.of (pk.s _ _ (s11 _ _ er9)), key_at (by omega), pick_yes hj (by omega) rfl (Same.refl _) pk⟩
      · intro G2 pk
        have aL := pick_end (by rw [List.length_map, zl_len]) pk
        rw [fm_map, show (gs.map fun p => V.int (keyAt ks p)) = (gs.map (keyAt ks)).map V.int by rw [List.map_map]; rfl] at aL
        refine ⟨D2, _, rfl, SqL.of aL.a, fun ts o2 hpm3 hso3 no2 => ?_⟩
        have ets : ts = ns.take c := taken_least hw.1 en hh (show c ≤ n by omega) hp6 hs6 (by rw [← egs]; exact hpm3) hso3
        subst ets
        have s12 := aL.s.trans (Same.up (o := .lst ((ns.take c).map V.int)) no2)
        refine ⟨_, rfl, .list ((ns.take c).map PyData.int), .list ((ns.take c).map PyData.int), .lst (SqL.of upd_same) (ints_dp _ _ _), .lst (SqL.of (s12 _ _ e6')) (ints_dp _ _ _), shaped_ints _, shaped_ints _, _, rfl, ?_⟩
        rw [ints_eqvL, decide_eq_true rfl]
        exact iteF ⟨rfl, s11.trans s12⟩
    rintro σ' H9 ⟨eq, s10⟩
    subst σ'
    subst eS
    refine ⟨_, rfl, .inl ⟨rfl, _, SqL.of (s10 _ _ e6)⟩, q6, _, _, rfl, rfl, s10 _ _ e6, small1000 (by rw [List.length_map, List.length_take]; omega), ?_⟩
    have s11 : Same H7 (upd H9 q6 (.lst ((s.take c).map V.int ++ [V.int 5]))) := fun b o z => by
      rw [upd_ne (ne_of_none z n6)]
      exact s10 _ _ (s9 _ _ z)
    generalize upd H9 q6 (.lst ((s.take c).map V.int ++ [V.int 5])) = G at s11
    have er11 := s11 _ _ (s8 _ _ er)
    refine ⟨_, rfl, r, _, rfl, .inr (SqT.of er11), fun l nl => ?_⟩
    have s12 := Same.up (o := .lst (ks.map V.int)) nl
    refine ⟨_, rfl, _, rfl, rfl, rfl, l, c, w, ks, rfl, hpc (.inl upd_same), fun G2 q9 u s13 n9 hp9 hs9 e9 => ?_⟩
    have s14 := s12.trans s13
    refine ⟨_, rfl, r, ks, rfl, SqT.of (s14 _ _ er11), fun ns o hpm2 hso2 no => ?_⟩
    obtain rfl : ns = u := sorted_one (hpm2.trans hp9.symm) hso2 hs9
    have s15 := Same.up (o := .lst (ns.map V.int)) no
    refine ⟨_, rfl, _, rfl, o, _, rfl, SqL.of upd_same, fun p2 np2 => ?_⟩
    rw [icut]
    have s16 := s15.trans (Same.up (o := .lst ((ns.take c).map V.int)) np2)
    refine ⟨.list ((ns.take c).map PyData.int), .list ((ns.take c).map PyData.int), .lst (SqL.of (s16 _ _ e9)) (ints_dp _ _ _), .lst (SqL.of upd_same) (ints_dp _ _ _), shaped_ints _, shaped_ints _, _, rfl, ?_⟩
    rw [ints_eqvL, decide_eq_true rfl]
    exact iteF ⟨_, _, _, _, _, rfl, s8.trans (s11.trans (s14.trans s16))⟩
theorem b_lrt (T : Tx K mg A) : L2.Binds K A.d__law_right ["row", "wide"] [] := T.F__law_right.binds fun _ _ _ _ _ _ us hl => match us, hl with | [_, _], _ => rfl

end
end Tw

set_option Elab.async false
set_option linter.all false
set_option maxRecDepth 100000
set_option maxHeartbeats 2000000
namespace Tw
open PySem PySem.Spec PyProof.Rows L2
section
variable {P : Program} {w : World} {K : PySem.W.Frag} {mg : Str → Option Value} {base : Heap} {A : Ad}
open LamX (ExtN Tabs TabS)
/-! the law -/
def spLaw (K : PySem.W.Frag) : Sp := fun vs H Q _ => ∃ (a : Addr) (ns : List Int), vs = [.ref a] ∧ SqL K H a (ns.map V.int) ∧ ns.length ≤ 63 ∧ ∀ H', Q (.bl true) H'
theorem heap_range (n : Nat) {w : Nat} (hw : 1 ≤ w) : HeapL n w ((List.range n).map fun (i : Nat) => (i : Int)) := fun c h1 h2 => by
  have hd := Nat.div_le_self (c - 1) w
  have e : ∀ p, p < n → keyAt ((List.range n).map fun (i : Nat) => (i : Int)) p = (p : Int) := fun p hp => by
    unfold keyAt
    rw [List.getD_eq_getElem?_getD, List.getElem?_map, List.getElem?_range hp]
    rfl
  rw [e _ (by omega), e _ h2]
  omega
theorem heap_rep (n w : Nat) (k : Int) : HeapL n w (List.replicate n k) := fun c h1 h2 => by
  have hd := Nat.div_le_self (c - 1) w
  have e : ∀ p, p < n → keyAt (List.replicate n k) p = k := fun p hp => by
    unfold keyAt
    rw [List.getD_eq_getElem?_getD, List.getElem?_replicate, if_pos hp]
    rfl
  rw [e _ (by omega), e _ h2]
  exact Int.le_refl _
theorem rep_flat (n : Nat) (k : Int) : (List.replicate n [V.int k]).flatten = (List.replicate n k).map V.int := by
  induction n with
  | zero => rfl
  | succ n ih =>
    rw [List.replicate_succ, List.flatten_cons, ih, List.replicate_succ, List.map_cons]
    rfl
theorem AtF.put {C : Addr} {H : Hp} {p l : Addr} {x y : List Int} {zs ws : List V} (h : AtF C H p x y) (e : H l = some (.lst zs)) : AtF C (upd H l (.lst ws)) p x y := by
  obtain ⟨dx, t0, t1, g, f0, f1⟩ := h
  refine ⟨dx, t0, t1, ?_, ?_, ?_⟩
  · rw [upd_ne (ne_of g e (by intro z; cases z))]
    exact g
  · rw [upd_ne (ne_of f0 e (by intro z; cases z))]
    exact f0
  · rw [upd_ne (ne_of f1 e (by intro z; cases z))]
    exact f1
theorem ok_law (T : Tx K mg A) : FnOk P w K mg base CX0 14 A.f_law A.d_law ["script"] (spLaw K) := by
  refine T.F_law.ok sc_law (fun vs H Q E h => ?_) (fun cdv B outer s H vs Q E hr h => ?_)
  · obtain ⟨a, ns, rfl, _⟩ := h
    rfl
  · obtain ⟨a, ns, rfl, ha, h63, q⟩ := h
    have nd := sc_law.nd
    have hu := hr.units
    refine ⟨_, PSs.nox (pss_cons (ps_set (i := 1) nd rfl (Or.inl rfl) (pe_callTy call_int1 (by rfl) T.g_int (by decide +kernel) (pa_cons (pe_call (ok_num T) (hr.mono (by decide)) (by rfl) T.m__law_number T.F__law_number.kp (b_num T) .nil pass0 (pa_cons (pv 0) (pa_cons pe_int pa_nil))) pa_nil)))
      (C8.pss_cut (ps_par3 (i := 2) (j := 3) (l := 4) rfl nd rfl rfl rfl (by decide) (by decide) (by decide) rfl rfl rfl (pa_cons (pe_op op_mod (pe_callTy call_int1 (by rfl) T.g_int (by decide +kernel) (pa_cons (pv 1) pa_nil)) pe_int) (pa_cons (pe_op op_add pe_int (pe_op op_mod (pe_callTy call_int1 (by rfl) T.g_int (by decide +kernel) (pa_cons (pe_op op_fdiv (pv 1) pe_int) pa_nil)) pe_int)) (pa_cons (pe_ix (r := rIxT K) ix_tup (pe_tup (pa_cons pe_int (pa_cons pe_int (pa_cons pe_int (pa_cons (pe_op op_pow pe_int pe_int) pa_nil))))) (pe_op op_mod (pe_callTy call_int1 (by rfl) T.g_int (by decide +kernel) (pa_cons (pe_op op_fdiv (pv 1) pe_int) pa_nil)) pe_int) (fun _ _ => rfl)) pa_nil))) rfl)
      (C8.pss_cut (ps_set (i := 5) nd rfl (Or.inl rfl) (pe_call (ok_lhp T) (hr.mono (by decide)) (by rfl) T.m__law_heap T.F__law_heap.kp (b_lhp T) .nil pass0 (pa_cons (pv 0) (pa_cons pe_int (pa_cons (pv 2) (pa_cons (pv 3) (pa_cons (pv 4) pa_nil)))))))
      (C8.pss_cut (ps_if (PW.pt (pw_or (pt_not (pt_val (pe_call (ok_lrt T) (hr.mono (by decide)) (by rfl) T.m__law_right T.F__law_right.kp (b_lrt T) .nil pass0 (pa_cons (pv 5) (pa_cons (pv 3) pa_nil))))) (pw_or (pt_not (pt_val (pe_call (ok_lrt T) (hr.mono (by decide)) (by rfl) T.m__law_right T.F__law_right.kp (b_lrt T) .nil pass0 (pa_cons (pe_tupRg rfl (by rfl) T.g_tuple (prg_1 (by rfl) T.g_range (pv 2))) (pa_cons (pv 3) pa_nil))))) (pw_or1 (pt_not (pt_val (pe_call (ok_lrt T) (hr.mono (by decide)) (by rfl) T.m__law_right T.F__law_right.kp (b_lrt T) .nil pass0 (pa_cons (pe_op op_repU (pe_tup (pa_cons pe_int pa_nil)) (pv 2)) (pa_cons (pv 3) pa_nil))))))))) (pss_one (ps_ret pe_bl)) pss_nil)
      (C8.pss_cut (ps_set (i := 6) nd rfl (Or.inl rfl) (pe_lst (pa_cons (pe_lst (pa_cons pe_int (pa_cons pe_int pa_nil))) (pa_cons (pe_lst (pa_cons pe_int (pa_cons pe_int pa_nil))) pa_nil))))
      (C8.pss_cut (ps_set (i := 7) nd rfl (Or.inl rfl) (pe_make T.mkCF (ok_iF T) (hr.mono (by decide)) (by rfl) T.mCF (b_iF T) .nil pass0 (pa_cons (pe_ix (r := rIxL K) ix_list (pv 6) pe_int (fun _ _ => rfl)) (pa_cons (pe_ix (r := rIxL K) ix_list (pv 6) pe_int (fun _ _ => rfl)) pa_nil))))
      (pss_cons (ps_expr (pe_bm PySem.F.plainAttrs_list PySem.F.slot_list_append PySem.F.type_list_append mt_append (pe_ix (r := rIxL K) ix_list (pv 6) pe_int (fun _ _ => rfl)) (pa_cons pe_int pa_nil)))
      (pss_cons (ps_expr (pe_bm PySem.F.plainAttrs_list PySem.F.slot_list_append PySem.F.type_list_append mt_append (pe_ix (r := rIxL K) ix_list (pv 6) pe_int (fun _ _ => rfl)) (pa_cons pe_int pa_nil)))
      (C8.pss_cut (ps_if (PW.pt (pw_or (pt_cmpR (op_neD hu) (pe_fld (pv 7) rfl) (pe_tup (pa_cons pe_int (pa_cons pe_int pa_nil))) (nomark _)) (pw_or (pt_cmpR (op_neD hu) (pe_fld (pv 7) rfl) (pe_tup (pa_cons pe_int (pa_cons pe_int pa_nil))) (nomark _)) (pw_or (pt_cmpR (op_ne_own T.eqcF (ok_eF T) (hr.mono (by decide)) (b_eF T) pass0) (pv 7) (pe_make T.mkCF (ok_iF T) (hr.mono (by decide)) (by rfl) T.mCF (b_iF T) .nil pass0 (pa_cons (pe_tup (pa_cons pe_int (pa_cons pe_int pa_nil))) (pa_cons (pe_tup (pa_cons pe_int (pa_cons pe_int pa_nil))) pa_nil))) (nomark _)) (pw_or1 (pt_cmpR op_ne (pe_callB (call_len_own T.D_f___len__ (ok_flen T) (hr.mono (by decide)) (b_flen T) pass0) (by rfl) T.g_len PySem.boot_len (pa_cons (pv 7) pa_nil)) pe_int (nomark _))))))) (pss_one (ps_ret pe_bl)) pss_nil)
      (pss_one (ps_ret (pe_and (pe_cmpR (op_ne_own T.eqcF (ok_eF T) (hr.mono (by decide)) (b_eF T) pass0) (pv 7) (pe_make T.mkCF (ok_iF T) (hr.mono (by decide)) (by rfl) T.mCF (b_iF T) .nil pass0 (pa_cons (pe_tup (pa_cons pe_int (pa_cons pe_int pa_nil))) (pa_cons (pe_tup (pa_cons pe_int (pa_cons pe_int pa_nil))) pa_nil))) (nomark _)) (pe_and (pe_not (pe_cmpR (op_eq_own T.eqcF (ok_eF T) (hr.mono (by decide)) (b_eF T) pass0) (pv 7) (pe_make T.mkCF (ok_iF T) (hr.mono (by decide)) (by rfl) T.mCF (b_iF T) .nil pass0 (pa_cons (pe_tup (pa_cons pe_int pa_nil)) (pa_cons (pe_tup (pa_cons pe_int (pa_cons pe_int pa_nil))) pa_nil))) (nomark _))) (pe_one (pe_not (pe_cmpR (op_eq_own T.eqcF (ok_eF T) (hr.mono (by decide)) (b_eF T) pass0) (pv 7) (pe_tup (pa_cons (pe_tup (pa_cons pe_int (pa_cons pe_int pa_nil))) (pa_cons (pe_tup (pa_cons pe_int (pa_cons pe_int pa_nil))) pa_nil))) (nomark _))))))))))))))))), ?_⟩
    refine ⟨_, rfl, a, ns, 0, rfl, ha, h63, by omega, fun H1 r1 s1 => .inl ⟨_, rfl, ?_⟩⟩
    refine ⟨fun σ' H' => ∃ (n w : Nat) (sp : Int), σ' = [some (.ref a), some (.int r1), some (.int n), some (.int w), some (.int sp), none, none, none] ∧ Same H1 H' ∧ n ≤ 12 ∧ (1 ≤ w ∧ w ≤ 4) ∧ (3 ≤ sp ∧ sp ≤ 1000000), ?_, ?_⟩
    · have a0 := Int.emod_nonneg r1 (show (13 : Int) ≠ 0 by decide)
      have a1 := Int.emod_lt_of_pos r1 (show (0 : Int) < 13 by decide)
      have b0 := Int.emod_nonneg (r1 / 13) (show (4 : Int) ≠ 0 by decide)
      have b1 := Int.emod_lt_of_pos (r1 / 13) (show (0 : Int) < 4 by decide)
      have c0 := Int.emod_nonneg (r1 / 52) (show (4 : Int) ≠ 0 by decide)
      have c1 := Int.emod_lt_of_pos (r1 / 52) (show (0 : Int) < 4 by decide)
      obtain ⟨n, hn⟩ : ∃ n : Nat, r1 % 13 = (n : Int) := ⟨_, (Int.toNat_of_nonneg a0).symm⟩
      obtain ⟨w, hw⟩ : ∃ w : Nat, 1 + r1 / 13 % 4 = (w : Int) := ⟨(1 + r1 / 13 % 4).toNat, (Int.toNat_of_nonneg (by omega)).symm⟩
      obtain ⟨sp, hsp1, hsp2, hsp3⟩ : ∃ sp : Int, atI [V.int 3, V.int 9, V.int 60, V.int ((10 : Int) ^ (6 : Int).toNat)] (r1 / 52 % 4) = some (V.int sp) ∧ 3 ≤ sp ∧ sp ≤ 1000000 := by
        have : r1 / 52 % 4 = 0 ∨ r1 / 52 % 4 = 1 ∨ r1 / 52 % 4 = 2 ∨ r1 / 52 % 4 = 3 := by omega
        rcases this with h | h | h | h
        · rw [h]
          exact ⟨3, rfl, by decide, by decide⟩
        · rw [h]
          exact ⟨9, rfl, by decide, by decide⟩
        · rw [h]
          exact ⟨60, rfl, by decide, by decide⟩
        · rw [h]
          exact ⟨(10 : Int) ^ (6 : Int).toNat, rfl, by decide, by decide⟩
      refine ⟨_, rfl, .inl ⟨_, rfl, _, _, rfl, rfl, by show (0 : Int) < 13; decide, _, rfl, _, _, rfl, rfl, ⟨by decide, by decide⟩, .inl ⟨_, rfl, _, _, rfl, rfl, by show (0 : Int) < 4; decide, _, _, rfl, rfl, ?_⟩⟩⟩
      refine ⟨_, _, rfl, rfl, ⟨by decide, by decide, by decide⟩, by show 4 ≤ sizeLine; decide, fun tt ntt => ?_⟩
      refine ⟨_, rfl, _, _, rfl, rfl, ⟨by decide, by decide⟩, .inl ⟨_, rfl, _, _, rfl, rfl, by show (0 : Int) < 4; decide, tt, _, _, V.int sp, rfl, rfl, SqT.of upd_same, hsp1, _, _, _, rfl, n, w, sp, ?_, Same.up ntt, by omega, by omega, hsp2, hsp3⟩⟩
      show [some (V.ref a), some (V.int r1), some (V.int (r1 % 13)), some (V.int (1 + r1 / 13 % 4)), some (V.int sp), none, none, none] = _
      rw [hn, hw]
    rintro σ' H2 ⟨n, w1, sp, rfl, s2, hn, hw, hsp⟩
    refine ⟨fun σ' H' => ∃ (q5 : Addr) (ks : List Int), σ' = [some (.ref a), some (.int r1), some (.int n), some (.int w1), some (.int sp), some (.ref q5), none, none] ∧ H' q5 = some (.tup (ks.map V.int)) ∧ GrowH w1 n ks, ?_, ?_⟩
    · exact ⟨_, rfl, _, rfl, _, rfl, _, rfl, a, ns, 1, n, w1, sp, rfl, (s1.trans s2).seq ha, h63, by omega, hn, hw, hsp, fun H3 q5 ks s3 e5 gh => ⟨q5, ks, rfl, e5, gh⟩⟩
    rintro σ' H3 ⟨q5, ks, rfl, e5, gh⟩
    have hkl := gh.len
    generalize eS : ([some (.ref a), some (.int r1), some (.int n), some (.int w1), some (.int sp), some (.ref q5), none, none] : L2.St) = S0
    refine ⟨fun σ' H' => σ' = S0, ?_, ?_⟩
    · subst eS
      refine ⟨_, rfl, _, rfl, q5, w1, ks, rfl, hw, e5, by omega, fun z hz => by have := gh.bd z hz; omega, by rw [hkl]; exact gh.hp, fun H4 s4 => ⟨_, rfl, iteF ?_⟩⟩
      refine ⟨_, rfl, _, rfl, RgOk.of_le (by omega) (by omega) (by omega) (by omega), fun t nt => ?_⟩
      have et : upd H4 t (.tup (rgV 0 (n : Int))) t = some (.tup (((List.range n).map fun (i : Nat) => (i : Int)).map V.int)) := by
        rw [upd_same, rg_pl, show pl n = ((List.range n).map fun (i : Nat) => (i : Int)).map V.int by unfold pl; rw [List.map_map]; rfl]
      generalize upd H4 t (.tup (rgV 0 (n : Int))) = H5 at et
      have hrl : ((List.range n).map fun (i : Nat) => (i : Int)).length = n := by rw [List.length_map, List.length_range]
      refine ⟨_, rfl, t, w1, _, rfl, hw, et, by rw [hrl]; omega, fun z hz => ?_, by rw [hrl]; exact heap_range n hw.1, fun H6 s6 => ⟨_, rfl, iteF ?_⟩⟩
      · obtain ⟨i, hi, rfl⟩ := List.mem_map.mp hz
        have := List.mem_range.mp hi
        omega
      refine ⟨by show 1 ≤ sizeLine; decide, fun u nu => ⟨_, rfl, u, n, [V.int 4], rfl, rfl, upd_same, by simp, by omega, by show 1 ≤ 1000; decide, fun t2 H7 s7 e7 => ?_⟩⟩
      rw [rep_flat] at e7
      refine ⟨_, rfl, t2, w1, _, rfl, hw, e7, by rw [List.length_replicate]; omega, fun z hz => ?_, by rw [List.length_replicate]; exact heap_rep n w1 4, fun H8 s8 => ⟨_, rfl, iteF rfl⟩⟩
      rw [(List.mem_replicate.mp hz).2]
      omega
    rintro σ' H4 eq
    subst eq
    subst eS
    refine ⟨fun σ' H' => ∃ L p1 p2 : Addr, σ' = [some (.ref a), some (.int r1), some (.int n), some (.int w1), some (.int sp), some (.ref q5), some (.ref L), none] ∧ H' L = some (.lst [.ref p1, .ref p2]) ∧ H' p1 = some (.lst [.int 0, .int 2]) ∧ H' p2 = some (.lst [.int 5, .int 1]) ∧ p1 ≠ L ∧ p2 ≠ L ∧ p1 ≠ p2, ?_, ?_⟩
    · refine ⟨by show 2 ≤ sizeLine; decide, fun p1 np1 => ⟨by show 2 ≤ sizeLine; decide, fun p2 np2 => ⟨by show 2 ≤ sizeLine; decide, fun L nL => ?_⟩⟩⟩
      have h12 : p1 ≠ p2 := ne_of_none (upd_same (H := H4)) np2
      have e1 := (Same.up (o := .lst [V.int 5, V.int 1]) np2) _ _ (upd_same (H := H4) (a := p1) (o := .lst [V.int 0, V.int 2]))
      have e2 := upd_same (H := upd H4 p1 (.lst [V.int 0, V.int 2])) (a := p2) (o := .lst [V.int 5, V.int 1])
      have sL := Same.up (o := .lst [V.ref p1, V.ref p2]) nL
      exact ⟨L, p1, p2, rfl, upd_same, sL _ _ e1, sL _ _ e2, ne_of_none e1 nL, ne_of_none e2 nL, h12⟩
    rintro σ' H5 ⟨L, p1, p2, rfl, eL, ep1, ep2, h1L, h2L, h12⟩
    refine ⟨fun σ' H' => ∃ x : Addr, σ' = [some (.ref a), some (.int r1), some (.int n), some (.int w1), some (.int sp), some (.ref q5), some (.ref L), some (.ref x)] ∧ Same H5 H' ∧ AtF A.CF H' x [0, 2] [5, 1], ?_, ?_⟩
    · refine ⟨_, rfl, L, _, _, V.ref p1, rfl, rfl, SqL.of eL, rfl, _, rfl, L, _, _, V.ref p2, rfl, rfl, SqL.of eL, rfl, fun x dx nx ndx nex => ?_⟩
      have s6 := new_up (C := A.CF) nx ndx nex
      exact ⟨x, dx, p1, p2, [0, 2], [5, 1], rfl, upd_same, .inl (s6 _ _ ep1), .inl (s6 _ _ ep2), fun H6 k6 at6 => ⟨rfl, x, rfl, new_same nx ndx k6, at6⟩⟩
    rintro σ' H6 ⟨x, rfl, s6, at6⟩
    have eL := s6 _ _ eL
    have ep1 := s6 _ _ ep1
    have ep2 := s6 _ _ ep2
    refine ⟨_, rfl, L, _, _, V.ref p1, rfl, rfl, SqL.of eL, rfl, .inl ⟨rfl, _, SqL.of ep1⟩, p1, _, _, rfl, rfl, ep1, by show 2 < sizeLine; decide, ?_⟩
    have at7 := at6.put (ws := [V.int 0, V.int 2] ++ [V.int 3]) ep1
    have eL7 : upd H6 p1 (.lst ([V.int 0, V.int 2] ++ [V.int 3])) L = _ := (upd_ne h1L.symm).trans eL
    have ep27 : upd H6 p1 (.lst ([V.int 0, V.int 2] ++ [V.int 3])) p2 = _ := (upd_ne h12.symm).trans ep2
    generalize upd H6 p1 (.lst ([V.int 0, V.int 2] ++ [V.int 3])) = H7 at at7 eL7 ep27
    refine ⟨_, rfl, L, _, _, V.ref p2, rfl, rfl, SqL.of eL7, rfl, .inl ⟨rfl, _, SqL.of ep27⟩, p2, _, _, rfl, rfl, ep27, by show 2 < sizeLine; decide, ?_⟩
    have at8 := at7.put (ws := [V.int 5, V.int 1] ++ [V.int 3]) ep27
    generalize upd H7 p2 (.lst ([V.int 5, V.int 1] ++ [V.int 3])) = H8 at at8
    generalize eS : ([some (.ref a), some (.int r1), some (.int n), some (.int w1), some (.int sp), some (.ref q5), some (.ref L), some (.ref x)] : L2.St) = S0
    refine ⟨fun σ' H' => σ' = S0 ∧ AtF A.CF H' x [0, 2] [5, 1], ?_, ?_⟩
    · subst eS
      obtain ⟨d8, t0, t1, g, f0, f1⟩ := id at8
      refine ⟨_, rfl, x, A.CF, d8, _, _, rfl, g, T.cTF, T.fTaken, fdF_taken _ _, by show 2 ≤ sizeLine; decide, fun u nu => ?_⟩
      have s9 := Same.up (o := .tup ([0, 2].map V.int)) nu
      refine ⟨_, _, ints_tup K (s9 _ _ f0), ints_tup K (ks := [0, 2]) upd_same, ints_shT _, ints_shT _, _, rfl, ?_⟩
      rw [ints_eqv, decide_eq_true rfl]
      refine iteF ⟨_, rfl, x, A.CF, d8, _, _, rfl, s9 _ _ g, T.cTF, T.fWait, fdF_waiting _ _, by show 2 ≤ sizeLine; decide, fun u2 nu2 => ?_⟩
      have s10 := s9.trans (Same.up (o := .tup ([5, 1].map V.int)) nu2)
      refine ⟨_, _, ints_tup K (s10 _ _ f1), ints_tup K (ks := [5, 1]) upd_same, ints_shT _, ints_shT _, _, rfl, ?_⟩
      rw [ints_eqv, decide_eq_true rfl]
      have atB := at8.same s10
      refine iteF ⟨_, rfl, by show 2 ≤ sizeLine; decide, fun l1 n1 => ⟨by show 2 ≤ sizeLine; decide, fun l2 n2 y dy ny ndy ney => ?_⟩⟩
      have s11 := (Same.up (o := .tup ([0, 2].map V.int)) n1).trans (Same.up (o := .tup ([5, 1].map V.int)) n2)
      have s12 := new_up (C := A.CF) ny ndy ney
      refine ⟨y, dy, l1, l2, [0, 2], [5, 1], rfl, upd_same, .inr (s12 _ _ ((Same.up n2) _ _ upd_same)), .inr (s12 _ _ upd_same), fun B2 k2 st2 => ⟨rfl, ?_⟩⟩
      have atB2 := atB.same (s11.trans (new_same ny ndy k2))
      obtain ⟨d1', f1', g1⟩ := atB2.ins
      obtain ⟨d2', f2', g2⟩ := st2.ins
      refine ⟨x, d1', f1', rfl, g1, .ins g2, eqF_at atB2 st2 (decide_eq_true ⟨rfl, rfl⟩) ⟨_, rfl, _, rfl, iteF ?_⟩⟩
      refine ⟨_, rfl, x, d1', f1', rfl, g1, x, [0, 2], [5, 1], rfl, atB2, by decide, fun B3 s13 => ⟨_, rfl, by decide, rfl, _, rfl, ?_⟩⟩
      exact ite_b (c := false) rfl (iteF ⟨rfl, atB2.same s13⟩)
    rintro σ' H9 ⟨eq, at9⟩
    subst σ'
    subst eS
    refine ⟨_, rfl, by show 2 ≤ sizeLine; decide, fun l1 n1 => ⟨by show 2 ≤ sizeLine; decide, fun l2 n2 y dy ny ndy ney => ?_⟩⟩
    have s11 := (Same.up (o := .tup ([0, 2].map V.int)) n1).trans (Same.up (o := .tup ([1, 5].map V.int)) n2)
    have s12 := new_up (C := A.CF) ny ndy ney
    refine ⟨y, dy, l1, l2, [0, 2], [1, 5], rfl, upd_same, .inr (s12 _ _ ((Same.up n2) _ _ upd_same)), .inr (s12 _ _ upd_same), fun B2 k2 st2 => ⟨rfl, ?_⟩⟩
    have atB2 := at9.same (s11.trans (new_same ny ndy k2))
    obtain ⟨d1', f1', g1⟩ := atB2.ins
    obtain ⟨d2', f2', g2⟩ := st2.ins
    refine ⟨x, d1', f1', rfl, g1, .ins g2, eqF_at atB2 st2 (decide_eq_false (by decide)) ⟨_, rfl, _, rfl, iteT ?_⟩⟩
    refine ⟨_, rfl, by show 1 ≤ sizeLine; decide, fun l3 n3 => ⟨by show 2 ≤ sizeLine; decide, fun l4 n4 z dz nz ndz nez => ?_⟩⟩
    have s13 := (Same.up (o := .tup ([0].map V.int)) n3).trans (Same.up (o := .tup ([5, 1].map V.int)) n4)
    have s14 := new_up (C := A.CF) nz ndz nez
    refine ⟨z, dz, l3, l4, [0], [5, 1], rfl, upd_same, .inr (s14 _ _ ((Same.up n4) _ _ upd_same)), .inr (s14 _ _ upd_same), fun B3 k3 st3 => ⟨rfl, ?_⟩⟩
    have atB3 := atB2.same (s13.trans (new_same nz ndz k3))
    obtain ⟨d3, f3, g3⟩ := atB3.ins
    obtain ⟨d4, f4, g4⟩ := st3.ins
    refine ⟨x, d3, f3, rfl, g3, .ins g4, eqF_at atB3 st3 (decide_eq_false (by decide)) ⟨_, rfl, _, rfl, _, rfl, iteT ?_⟩⟩
    refine ⟨_, rfl, by show 2 ≤ sizeLine; decide, fun l5 n5 => ⟨by show 2 ≤ sizeLine; decide, fun l6 n6 => ⟨by show 2 ≤ sizeLine; decide, fun u nu => ?_⟩⟩⟩
    have s15 := (Same.up (o := .tup ([0, 2].map V.int)) n5).trans ((Same.up (o := .tup ([5, 1].map V.int)) n6).trans (Same.up (o := .tup [V.ref l5, V.ref l6]) nu))
    have at10 := atB3.same s15
    obtain ⟨d5, f5, g5⟩ := at10.ins
    refine ⟨x, d5, f5, rfl, g5, .tup upd_same, ⟨x, _, [0, 2], [5, 1], rfl, at10, .inr ⟨.type "tuple", .base (.tup upd_same), T.kiF_tuple, _, rfl, _, rfl, ?_⟩⟩⟩
    exact q _

end
end Tw

set_option Elab.async false
set_option linter.all false
set_option maxRecDepth 100000
set_option maxHeartbeats 2000000
namespace Tw
open PySem PySem.Spec PyProof.Rows L2
theorem kit_no {K : PySem.W.Frag} {C : Addr} {t : String} (hc : PySem.W.isClsIn K C = true) (ht : PySem.W.typeIn K (.ref C) = some (.type "type")) (hs : PySem.W.subIn K (.type t) (.ref C) = some false) : PySem.W.kitOne K (.type t) (.ref C) = some false := by
  unfold PySem.W.kitOne PySem.W.kitCls
  have h1 : (PySem.W.clsIn K C).isSome = true := hc
  simp only [h1, ht, hs, beq_self_eq_true, Bool.and_self, if_true]
  rfl
theorem all_mk {l : PySem.W.OpenLaw} {w : World} {K : PySem.W.Frag} {h : Heap} {mg : Str → Option Value} (X : K.In h) (G : h.Ns mainGlobals mg) {fa C CF po D_t___init__ D_t_of D_faults D_front D_least_keys f_is_integer f_is_integer_from f_is_key f_check_arms f_check_many f_check_place f_row_of f_check_count f_t___init__ f_t_of f_t___len__ f_t___iter__ f_t___getitem__ f_t_parent f_faults f_heap_of f_f___init__ f_f___eq__ f_f___len__ f_front f_least_keys f_counted_heap_of f__law_number f__law_heap f__law_walked f__law_right f_law : Addr} {od_is_integer an_is_integer : Option Addr} {sl_is_integer : Array (Option Value)} {oc_is_integer kV_is_integer dc_is_integer pm_is_integer cd_is_integer ct_is_integer : Value} {od_is_integer_from an_is_integer_from : Option Addr} {sl_is_integer_from : Array (Option Value)} {oc_is_integer_from kV_is_integer_from dc_is_integer_from pm_is_integer_from cd_is_integer_from ct_is_integer_from : Value} {od_is_key an_is_key : Option Addr} {sl_is_key : Array (Option Value)} {oc_is_key kV_is_key dc_is_key pm_is_key cd_is_key ct_is_key : Value} {od_check_arms an_check_arms : Option Addr} {sl_check_arms : Array (Option Value)} {oc_check_arms kV_check_arms dc_check_arms pm_check_arms cd_check_arms ct_check_arms : Value} {od_check_many an_check_many : Option Addr} {sl_check_many : Array (Option Value)} {oc_check_many kV_check_many dc_check_many pm_check_many cd_check_many ct_check_many : Value} {od_check_place an_check_place : Option Addr} {sl_check_place : Array (Option Value)} {oc_check_place kV_check_place dc_check_place pm_check_place cd_check_place ct_check_place : Value} {od_row_of an_row_of : Option Addr} {sl_row_of : Array (Option Value)} {oc_row_of kV_row_of dc_row_of pm_row_of cd_row_of ct_row_of : Value} {od_check_count an_check_count : Option Addr} {sl_check_count : Array (Option Value)} {oc_check_count kV_check_count dc_check_count pm_check_count cd_check_count ct_check_count : Value} {od_t___init__ an_t___init__ : Option Addr} {sl_t___init__ : Array (Option Value)} {oc_t___init__  dc_t___init__ pm_t___init__ cd_t___init__ ct_t___init__ : Value} {od_t_of an_t_of : Option Addr} {sl_t_of : Array (Option Value)} {oc_t_of  dc_t_of pm_t_of cd_t_of ct_t_of : Value} {od_t___len__ an_t___len__ : Option Addr} {sl_t___len__ : Array (Option Value)} {oc_t___len__ kV_t___len__ dc_t___len__ pm_t___len__ cd_t___len__ ct_t___len__ : Value} {od_t___iter__ an_t___iter__ : Option Addr} {sl_t___iter__ : Array (Option Value)} {oc_t___iter__ kV_t___iter__ dc_t___iter__ pm_t___iter__ cd_t___iter__ ct_t___iter__ : Value} {od_t___getitem__ an_t___getitem__ : Option Addr} {sl_t___getitem__ : Array (Option Value)} {oc_t___getitem__ kV_t___getitem__ dc_t___getitem__ pm_t___getitem__ cd_t___getitem__ ct_t___getitem__ : Value} {od_t_parent an_t_parent : Option Addr} {sl_t_parent : Array (Option Value)} {oc_t_parent kV_t_parent dc_t_parent pm_t_parent cd_t_parent ct_t_parent : Value} {od_faults an_faults : Option Addr} {sl_faults : Array (Option Value)} {oc_faults  dc_faults pm_faults cd_faults ct_faults : Value} {od_heap_of an_heap_of : Option Addr} {sl_heap_of : Array (Option Value)} {oc_heap_of kV_heap_of dc_heap_of pm_heap_of cd_heap_of ct_heap_of : Value} {od_f___init__ an_f___init__ : Option Addr} {sl_f___init__ : Array (Option Value)} {oc_f___init__ kV_f___init__ dc_f___init__ pm_f___init__ cd_f___init__ ct_f___init__ : Value} {od_f___eq__ an_f___eq__ : Option Addr} {sl_f___eq__ : Array (Option Value)} {oc_f___eq__ kV_f___eq__ dc_f___eq__ pm_f___eq__ cd_f___eq__ ct_f___eq__ : Value} {od_f___len__ an_f___len__ : Option Addr} {sl_f___len__ : Array (Option Value)} {oc_f___len__ kV_f___len__ dc_f___len__ pm_f___len__ cd_f___len__ ct_f___len__ : Value} {od_front an_front : Option Addr} {sl_front : Array (Option Value)} {oc_front  dc_front pm_front cd_front ct_front : Value} {od_least_keys an_least_keys : Option Addr} {sl_least_keys : Array (Option Value)} {oc_least_keys  dc_least_keys pm_least_keys cd_least_keys ct_least_keys : Value} {od_counted_heap_of an_counted_heap_of : Option Addr} {sl_counted_heap_of : Array (Option Value)} {oc_counted_heap_of kV_counted_heap_of dc_counted_heap_of pm_counted_heap_of cd_counted_heap_of ct_counted_heap_of : Value} {od__law_number an__law_number : Option Addr} {sl__law_number : Array (Option Value)} {oc__law_number kV__law_number dc__law_number pm__law_number cd__law_number ct__law_number : Value} {od__law_heap an__law_heap : Option Addr} {sl__law_heap : Array (Option Value)} {oc__law_heap kV__law_heap dc__law_heap pm__law_heap cd__law_heap ct__law_heap : Value} {od__law_walked an__law_walked : Option Addr} {sl__law_walked : Array (Option Value)} {oc__law_walked kV__law_walked dc__law_walked pm__law_walked cd__law_walked ct__law_walked : Value} {od__law_right an__law_right : Option Addr} {sl__law_right : Array (Option Value)} {oc__law_right kV__law_right dc__law_right pm__law_right cd__law_right ct__law_right : Value} {od_law an_law : Option Addr} {sl_law : Array (Option Value)} {oc_law kV_law dc_law pm_law cd_law ct_law : Value}
    (hfa : mg "law" = some (.ref fa))
    (aC : PySem.W.nsIn K mainGlobals "Tree" = some (some (.ref C)))
    (aCF : PySem.W.nsIn K mainGlobals "Front" = some (some (.ref CF)))
    (a_is_integer : PySem.W.nsIn K mainGlobals "is_integer" = some (some (.ref f_is_integer)))
    (l_is_integer : K.lookup f_is_integer = some ⟨oc_is_integer, od_is_integer, .func (PySem.W.fnOf "is_integer" "is_integer" (defArgs s_is_integer) (defBody s_is_integer) (defScope s_is_integer) .none kV_is_integer dc_is_integer pm_is_integer an_is_integer cd_is_integer ct_is_integer), sl_is_integer⟩)
    (c_is_integer : PySem.W.codeIn K cd_is_integer "is_integer" = true)
    (k_is_integer : PySem.W.keepIn K (.ref f_is_integer) = true)
    (a_is_integer_from : PySem.W.nsIn K mainGlobals "is_integer_from" = some (some (.ref f_is_integer_from)))
    (l_is_integer_from : K.lookup f_is_integer_from = some ⟨oc_is_integer_from, od_is_integer_from, .func (PySem.W.fnOf "is_integer_from" "is_integer_from" (defArgs s_is_integer_from) (defBody s_is_integer_from) (defScope s_is_integer_from) .none kV_is_integer_from dc_is_integer_from pm_is_integer_from an_is_integer_from cd_is_integer_from ct_is_integer_from), sl_is_integer_from⟩)
    (c_is_integer_from : PySem.W.codeIn K cd_is_integer_from "is_integer_from" = true)
    (k_is_integer_from : PySem.W.keepIn K (.ref f_is_integer_from) = true)
    (a_is_key : PySem.W.nsIn K mainGlobals "is_key" = some (some (.ref f_is_key)))
    (l_is_key : K.lookup f_is_key = some ⟨oc_is_key, od_is_key, .func (PySem.W.fnOf "is_key" "is_key" (defArgs s_is_key) (defBody s_is_key) (defScope s_is_key) .none kV_is_key dc_is_key pm_is_key an_is_key cd_is_key ct_is_key), sl_is_key⟩)
    (c_is_key : PySem.W.codeIn K cd_is_key "is_key" = true)
    (k_is_key : PySem.W.keepIn K (.ref f_is_key) = true)
    (a_check_arms : PySem.W.nsIn K mainGlobals "check_arms" = some (some (.ref f_check_arms)))
    (l_check_arms : K.lookup f_check_arms = some ⟨oc_check_arms, od_check_arms, .func (PySem.W.fnOf "check_arms" "check_arms" (defArgs s_check_arms) (defBody s_check_arms) (defScope s_check_arms) .none kV_check_arms dc_check_arms pm_check_arms an_check_arms cd_check_arms ct_check_arms), sl_check_arms⟩)
    (c_check_arms : PySem.W.codeIn K cd_check_arms "check_arms" = true)
    (k_check_arms : PySem.W.keepIn K (.ref f_check_arms) = true)
    (a_check_many : PySem.W.nsIn K mainGlobals "check_many" = some (some (.ref f_check_many)))
    (l_check_many : K.lookup f_check_many = some ⟨oc_check_many, od_check_many, .func (PySem.W.fnOf "check_many" "check_many" (defArgs s_check_many) (defBody s_check_many) (defScope s_check_many) .none kV_check_many dc_check_many pm_check_many an_check_many cd_check_many ct_check_many), sl_check_many⟩)
    (c_check_many : PySem.W.codeIn K cd_check_many "check_many" = true)
    (k_check_many : PySem.W.keepIn K (.ref f_check_many) = true)
    (a_check_place : PySem.W.nsIn K mainGlobals "check_place" = some (some (.ref f_check_place)))
    (l_check_place : K.lookup f_check_place = some ⟨oc_check_place, od_check_place, .func (PySem.W.fnOf "check_place" "check_place" (defArgs s_check_place) (defBody s_check_place) (defScope s_check_place) .none kV_check_place dc_check_place pm_check_place an_check_place cd_check_place ct_check_place), sl_check_place⟩)
    (c_check_place : PySem.W.codeIn K cd_check_place "check_place" = true)
    (k_check_place : PySem.W.keepIn K (.ref f_check_place) = true)
    (a_row_of : PySem.W.nsIn K mainGlobals "row_of" = some (some (.ref f_row_of)))
    (l_row_of : K.lookup f_row_of = some ⟨oc_row_of, od_row_of, .func (PySem.W.fnOf "row_of" "row_of" (defArgs s_row_of) (defBody s_row_of) (defScope s_row_of) .none kV_row_of dc_row_of pm_row_of an_row_of cd_row_of ct_row_of), sl_row_of⟩)
    (c_row_of : PySem.W.codeIn K cd_row_of "row_of" = true)
    (k_row_of : PySem.W.keepIn K (.ref f_row_of) = true)
    (a_check_count : PySem.W.nsIn K mainGlobals "check_count" = some (some (.ref f_check_count)))
    (l_check_count : K.lookup f_check_count = some ⟨oc_check_count, od_check_count, .func (PySem.W.fnOf "check_count" "check_count" (defArgs s_check_count) (defBody s_check_count) (defScope s_check_count) .none kV_check_count dc_check_count pm_check_count an_check_count cd_check_count ct_check_count), sl_check_count⟩)
    (c_check_count : PySem.W.codeIn K cd_check_count "check_count" = true)
    (k_check_count : PySem.W.keepIn K (.ref f_check_count) = true)
    (a_t___init__ : PySem.W.findIn K (.ref C) "__init__" = some (some (.ref f_t___init__)))
    (i_t___init__ : PySem.W.isFn K (.ref f_t___init__) = true)
    (l_t___init__ : K.lookup f_t___init__ = some ⟨oc_t___init__, od_t___init__, .func (PySem.W.fnOf "__init__" "Tree.__init__" (defArgs s_t___init__) (defBody s_t___init__) (defScope s_t___init__) .none (.ref D_t___init__) dc_t___init__ pm_t___init__ an_t___init__ cd_t___init__ ct_t___init__), sl_t___init__⟩)
    (c_t___init__ : PySem.W.codeIn K cd_t___init__ "Tree.__init__" = true)
    (k_t___init__ : PySem.W.keepIn K (.ref f_t___init__) = true)
    {tk_t___init__ : Tok}
    (w_t___init__ : PySem.W.nsIn K D_t___init__ "arms" = some (some (.int 2 tk_t___init__)))
    (a_t_of : PySem.W.findCls K (.ref C) (.type "type") "of" = some (.get (.builtin "classmethod.__get__") (.ref po) .none (.ref C)))
    {rest_of : List Value}
    (r_t_of : PySem.W.recIn K po "classmethod" = some (.ref f_t_of :: rest_of))
    (n_t_of : PySem.W.fnIn K f_t_of = true)
    (l_t_of : K.lookup f_t_of = some ⟨oc_t_of, od_t_of, .func (PySem.W.fnOf "of" "Tree.of" (defArgs s_t_of) (defBody s_t_of) (defScope s_t_of) .none (.ref D_t_of) dc_t_of pm_t_of an_t_of cd_t_of ct_t_of), sl_t_of⟩)
    (c_t_of : PySem.W.codeIn K cd_t_of "Tree.of" = true)
    (k_t_of : PySem.W.keepIn K (.ref f_t_of) = true)
    {tk_t_of : Tok}
    (w_t_of : PySem.W.nsIn K D_t_of "arms" = some (some (.int 2 tk_t_of)))
    (a_t___len__ : PySem.W.findIn K (.ref C) "__len__" = some (some (.ref f_t___len__)))
    (i_t___len__ : PySem.W.isFn K (.ref f_t___len__) = true)
    (n_t___len__ : PySem.W.fnIn K f_t___len__ = true)
    (l_t___len__ : K.lookup f_t___len__ = some ⟨oc_t___len__, od_t___len__, .func (PySem.W.fnOf "__len__" "Tree.__len__" (defArgs s_t___len__) (defBody s_t___len__) (defScope s_t___len__) .none kV_t___len__ dc_t___len__ pm_t___len__ an_t___len__ cd_t___len__ ct_t___len__), sl_t___len__⟩)
    (c_t___len__ : PySem.W.codeIn K cd_t___len__ "Tree.__len__" = true)
    (k_t___len__ : PySem.W.keepIn K (.ref f_t___len__) = true)
    (a_t___iter__ : PySem.W.findIn K (.ref C) "__iter__" = some (some (.ref f_t___iter__)))
    (i_t___iter__ : PySem.W.isFn K (.ref f_t___iter__) = true)
    (n_t___iter__ : PySem.W.fnIn K f_t___iter__ = true)
    (l_t___iter__ : K.lookup f_t___iter__ = some ⟨oc_t___iter__, od_t___iter__, .func (PySem.W.fnOf "__iter__" "Tree.__iter__" (defArgs s_t___iter__) (defBody s_t___iter__) (defScope s_t___iter__) .none kV_t___iter__ dc_t___iter__ pm_t___iter__ an_t___iter__ cd_t___iter__ ct_t___iter__), sl_t___iter__⟩)
    (c_t___iter__ : PySem.W.codeIn K cd_t___iter__ "Tree.__iter__" = true)
    (k_t___iter__ : PySem.W.keepIn K (.ref f_t___iter__) = true)
    (a_t___getitem__ : PySem.W.findIn K (.ref C) "__getitem__" = some (some (.ref f_t___getitem__)))
    (i_t___getitem__ : PySem.W.isFn K (.ref f_t___getitem__) = true)
    (n_t___getitem__ : PySem.W.fnIn K f_t___getitem__ = true)
    (l_t___getitem__ : K.lookup f_t___getitem__ = some ⟨oc_t___getitem__, od_t___getitem__, .func (PySem.W.fnOf "__getitem__" "Tree.__getitem__" (defArgs s_t___getitem__) (defBody s_t___getitem__) (defScope s_t___getitem__) .none kV_t___getitem__ dc_t___getitem__ pm_t___getitem__ an_t___getitem__ cd_t___getitem__ ct_t___getitem__), sl_t___getitem__⟩)
    (c_t___getitem__ : PySem.W.codeIn K cd_t___getitem__ "Tree.__getitem__" = true)
    (k_t___getitem__ : PySem.W.keepIn K (.ref f_t___getitem__) = true)
    (a_t_parent : PySem.W.findIn K (.ref C) "parent" = some (some (.ref f_t_parent)))
    (i_t_parent : PySem.W.isFn K (.ref f_t_parent) = true)
    (l_t_parent : K.lookup f_t_parent = some ⟨oc_t_parent, od_t_parent, .func (PySem.W.fnOf "parent" "Tree.parent" (defArgs s_t_parent) (defBody s_t_parent) (defScope s_t_parent) .none kV_t_parent dc_t_parent pm_t_parent an_t_parent cd_t_parent ct_t_parent), sl_t_parent⟩)
    (c_t_parent : PySem.W.codeIn K cd_t_parent "Tree.parent" = true)
    (k_t_parent : PySem.W.keepIn K (.ref f_t_parent) = true)
    (a_faults : PySem.W.nsIn K mainGlobals "faults" = some (some (.ref f_faults)))
    (l_faults : K.lookup f_faults = some ⟨oc_faults, od_faults, .func (PySem.W.fnOf "faults" "faults" (defArgs s_faults) (defBody s_faults) (defScope s_faults) .none (.ref D_faults) dc_faults pm_faults an_faults cd_faults ct_faults), sl_faults⟩)
    (c_faults : PySem.W.codeIn K cd_faults "faults" = true)
    (k_faults : PySem.W.keepIn K (.ref f_faults) = true)
    {tk_faults : Tok}
    (w_faults : PySem.W.nsIn K D_faults "arms" = some (some (.int 2 tk_faults)))
    (a_heap_of : PySem.W.nsIn K mainGlobals "heap_of" = some (some (.ref f_heap_of)))
    (l_heap_of : K.lookup f_heap_of = some ⟨oc_heap_of, od_heap_of, .func (PySem.W.fnOf "heap_of" "heap_of" (defArgs s_heap_of) (defBody s_heap_of) (defScope s_heap_of) .none kV_heap_of dc_heap_of pm_heap_of an_heap_of cd_heap_of ct_heap_of), sl_heap_of⟩)
    (c_heap_of : PySem.W.codeIn K cd_heap_of "heap_of" = true)
    (k_heap_of : PySem.W.keepIn K (.ref f_heap_of) = true)
    (a_f___init__ : PySem.W.findIn K (.ref CF) "__init__" = some (some (.ref f_f___init__)))
    (i_f___init__ : PySem.W.isFn K (.ref f_f___init__) = true)
    (l_f___init__ : K.lookup f_f___init__ = some ⟨oc_f___init__, od_f___init__, .func (PySem.W.fnOf "__init__" "Front.__init__" (defArgs s_f___init__) (defBody s_f___init__) (defScope s_f___init__) .none kV_f___init__ dc_f___init__ pm_f___init__ an_f___init__ cd_f___init__ ct_f___init__), sl_f___init__⟩)
    (c_f___init__ : PySem.W.codeIn K cd_f___init__ "Front.__init__" = true)
    (k_f___init__ : PySem.W.keepIn K (.ref f_f___init__) = true)
    (a_f___eq__ : PySem.W.findIn K (.ref CF) "__eq__" = some (some (.ref f_f___eq__)))
    (i_f___eq__ : PySem.W.isFn K (.ref f_f___eq__) = true)
    (l_f___eq__ : K.lookup f_f___eq__ = some ⟨oc_f___eq__, od_f___eq__, .func (PySem.W.fnOf "__eq__" "Front.__eq__" (defArgs s_f___eq__) (defBody s_f___eq__) (defScope s_f___eq__) .none kV_f___eq__ dc_f___eq__ pm_f___eq__ an_f___eq__ cd_f___eq__ ct_f___eq__), sl_f___eq__⟩)
    (c_f___eq__ : PySem.W.codeIn K cd_f___eq__ "Front.__eq__" = true)
    (k_f___eq__ : PySem.W.keepIn K (.ref f_f___eq__) = true)
    (a_f___len__ : PySem.W.findIn K (.ref CF) "__len__" = some (some (.ref f_f___len__)))
    (i_f___len__ : PySem.W.isFn K (.ref f_f___len__) = true)
    (n_f___len__ : PySem.W.fnIn K f_f___len__ = true)
    (l_f___len__ : K.lookup f_f___len__ = some ⟨oc_f___len__, od_f___len__, .func (PySem.W.fnOf "__len__" "Front.__len__" (defArgs s_f___len__) (defBody s_f___len__) (defScope s_f___len__) .none kV_f___len__ dc_f___len__ pm_f___len__ an_f___len__ cd_f___len__ ct_f___len__), sl_f___len__⟩)
    (c_f___len__ : PySem.W.codeIn K cd_f___len__ "Front.__len__" = true)
    (k_f___len__ : PySem.W.keepIn K (.ref f_f___len__) = true)
    (a_front : PySem.W.nsIn K mainGlobals "front" = some (some (.ref f_front)))
    (l_front : K.lookup f_front = some ⟨oc_front, od_front, .func (PySem.W.fnOf "front" "front" (defArgs s_front) (defBody s_front) (defScope s_front) .none (.ref D_front) dc_front pm_front an_front cd_front ct_front), sl_front⟩)
    (c_front : PySem.W.codeIn K cd_front "front" = true)
    (k_front : PySem.W.keepIn K (.ref f_front) = true)
    {tk_front : Tok}
    (w_front : PySem.W.nsIn K D_front "arms" = some (some (.int 2 tk_front)))
    (a_least_keys : PySem.W.nsIn K mainGlobals "least_keys" = some (some (.ref f_least_keys)))
    (l_least_keys : K.lookup f_least_keys = some ⟨oc_least_keys, od_least_keys, .func (PySem.W.fnOf "least_keys" "least_keys" (defArgs s_least_keys) (defBody s_least_keys) (defScope s_least_keys) .none (.ref D_least_keys) dc_least_keys pm_least_keys an_least_keys cd_least_keys ct_least_keys), sl_least_keys⟩)
    (c_least_keys : PySem.W.codeIn K cd_least_keys "least_keys" = true)
    (k_least_keys : PySem.W.keepIn K (.ref f_least_keys) = true)
    {tk_least_keys : Tok}
    (w_least_keys : PySem.W.nsIn K D_least_keys "arms" = some (some (.int 2 tk_least_keys)))
    (a_counted_heap_of : PySem.W.nsIn K mainGlobals "counted_heap_of" = some (some (.ref f_counted_heap_of)))
    (l_counted_heap_of : K.lookup f_counted_heap_of = some ⟨oc_counted_heap_of, od_counted_heap_of, .func (PySem.W.fnOf "counted_heap_of" "counted_heap_of" (defArgs s_counted_heap_of) (defBody s_counted_heap_of) (defScope s_counted_heap_of) .none kV_counted_heap_of dc_counted_heap_of pm_counted_heap_of an_counted_heap_of cd_counted_heap_of ct_counted_heap_of), sl_counted_heap_of⟩)
    (c_counted_heap_of : PySem.W.codeIn K cd_counted_heap_of "counted_heap_of" = true)
    (k_counted_heap_of : PySem.W.keepIn K (.ref f_counted_heap_of) = true)
    (a__law_number : PySem.W.nsIn K mainGlobals "_law_number" = some (some (.ref f__law_number)))
    (l__law_number : K.lookup f__law_number = some ⟨oc__law_number, od__law_number, .func (PySem.W.fnOf "_law_number" "_law_number" (defArgs s__law_number) (defBody s__law_number) (defScope s__law_number) .none kV__law_number dc__law_number pm__law_number an__law_number cd__law_number ct__law_number), sl__law_number⟩)
    (c__law_number : PySem.W.codeIn K cd__law_number "_law_number" = true)
    (k__law_number : PySem.W.keepIn K (.ref f__law_number) = true)
    (a__law_heap : PySem.W.nsIn K mainGlobals "_law_heap" = some (some (.ref f__law_heap)))
    (l__law_heap : K.lookup f__law_heap = some ⟨oc__law_heap, od__law_heap, .func (PySem.W.fnOf "_law_heap" "_law_heap" (defArgs s__law_heap) (defBody s__law_heap) (defScope s__law_heap) .none kV__law_heap dc__law_heap pm__law_heap an__law_heap cd__law_heap ct__law_heap), sl__law_heap⟩)
    (c__law_heap : PySem.W.codeIn K cd__law_heap "_law_heap" = true)
    (k__law_heap : PySem.W.keepIn K (.ref f__law_heap) = true)
    (a__law_walked : PySem.W.nsIn K mainGlobals "_law_walked" = some (some (.ref f__law_walked)))
    (l__law_walked : K.lookup f__law_walked = some ⟨oc__law_walked, od__law_walked, .func (PySem.W.fnOf "_law_walked" "_law_walked" (defArgs s__law_walked) (defBody s__law_walked) (defScope s__law_walked) .none kV__law_walked dc__law_walked pm__law_walked an__law_walked cd__law_walked ct__law_walked), sl__law_walked⟩)
    (c__law_walked : PySem.W.codeIn K cd__law_walked "_law_walked" = true)
    (k__law_walked : PySem.W.keepIn K (.ref f__law_walked) = true)
    (a__law_right : PySem.W.nsIn K mainGlobals "_law_right" = some (some (.ref f__law_right)))
    (l__law_right : K.lookup f__law_right = some ⟨oc__law_right, od__law_right, .func (PySem.W.fnOf "_law_right" "_law_right" (defArgs s__law_right) (defBody s__law_right) (defScope s__law_right) .none kV__law_right dc__law_right pm__law_right an__law_right cd__law_right ct__law_right), sl__law_right⟩)
    (c__law_right : PySem.W.codeIn K cd__law_right "_law_right" = true)
    (k__law_right : PySem.W.keepIn K (.ref f__law_right) = true)
    (a_law : PySem.W.nsIn K mainGlobals "law" = some (some (.ref f_law)))
    (l_law : K.lookup f_law = some ⟨oc_law, od_law, .func (PySem.W.fnOf "law" "law" (defArgs s_law) (defBody s_law) (defScope s_law) .none kV_law dc_law pm_law an_law cd_law ct_law), sl_law⟩)
    (c_law : PySem.W.codeIn K cd_law "law" = true)
    (k_law : PySem.W.keepIn K (.ref f_law) = true)
    {tc_GREATEST_KEY : Tok}
    (q_GREATEST_KEY : PySem.W.nsIn K mainGlobals "GREATEST_KEY" = some (some (.int 1000000000 tc_GREATEST_KEY)))
    {tc_MOST_ARMS : Tok}
    (q_MOST_ARMS : PySem.W.nsIn K mainGlobals "MOST_ARMS" = some (some (.int 4 tc_MOST_ARMS)))
    {tc_MOST_PLACES : Tok}
    (q_MOST_PLACES : PySem.W.nsIn K mainGlobals "MOST_PLACES" = some (some (.int 12 tc_MOST_PLACES)))
    (z_bool : PySem.W.nsIn K mainGlobals "bool" = some none)
    (z_enumerate : PySem.W.nsIn K mainGlobals "enumerate" = some none)
    (z_int : PySem.W.nsIn K mainGlobals "int" = some none)
    (z_isinstance : PySem.W.nsIn K mainGlobals "isinstance" = some none)
    (z_iter : PySem.W.nsIn K mainGlobals "iter" = some none)
    (z_len : PySem.W.nsIn K mainGlobals "len" = some none)
    (z_list : PySem.W.nsIn K mainGlobals "list" = some none)
    (z_min : PySem.W.nsIn K mainGlobals "min" = some none)
    (z_range : PySem.W.nsIn K mainGlobals "range" = some none)
    (z_sorted : PySem.W.nsIn K mainGlobals "sorted" = some none)
    (z_sum : PySem.W.nsIn K mainGlobals "sum" = some none)
    (z_tuple : PySem.W.nsIn K mainGlobals "tuple" = some none)
    (pg : PySem.W.plainGet K C Str.empty = true)
    (hd : PySem.W.hasDictIn K C = true)
    (po_ : PySem.W.plainOver K C = true)
    (sa : PySem.W.findIn K (.ref C) "__setattr__" = some (some (.builtin "object.__setattr__")))
    (na_nMany : PySem.W.findIn K (.ref C) "many" = some none)
    (na_nArms : PySem.W.findIn K (.ref C) "arms" = some none)
    (na_nPl : PySem.W.findIn K (.ref C) "_places" = some none)
    (mk : PySem.W.makesIn K C = true)
    (kc : PySem.W.keepIn K (.ref C) = true)
    (rd : PySem.W.readsIn K C (.type "type") = true)
    (ga : PySem.W.specialIn K (.ref C) "__getattribute__" = some (some (.builtin "type.__getattribute__")))
    (pgF : PySem.W.plainGet K CF Str.empty = true)
    (hdF : PySem.W.hasDictIn K CF = true)
    (po_F : PySem.W.plainOver K CF = true)
    (saF : PySem.W.findIn K (.ref CF) "__setattr__" = some (some (.builtin "object.__setattr__")))
    (na_fTaken : PySem.W.findIn K (.ref CF) "taken" = some none)
    (na_fWait : PySem.W.findIn K (.ref CF) "waiting" = some none)
    (mkF : PySem.W.makesIn K CF = true)
    (kcF : PySem.W.keepIn K (.ref CF) = true)
    (eneF : PySem.W.findIn K (.ref CF) "__ne__" = some (some (.builtin "object.__ne__")))
    (eobF : PySem.W.subIn K (.ref CF) (.type "object") = some true)
    (eniF : PySem.W.subIn K (.type "int") (.ref CF) = some false)
    (entF : PySem.W.subIn K (.type "tuple") (.ref CF) = some false)
    (kaF : PySem.W.findIn K (.ref CF) "__class__" = some (some (.builtin "object.__class__")))
    (knF : PySem.W.specialIn K (.builtin "object.__class__") "__get__" = some (some (.builtin "getset_descriptor.__get__")))
    (ktkF : PySem.W.takesIn K (.builtin "object.__class__") = some true)
    (kmF : PySem.W.mroIn K CF (.type "object") = some true)
    (kclF : PySem.W.isClsIn K CF = true)
    (ktyF : PySem.W.typeIn K (.ref CF) = some (.type "type"))
    : ∃ fd : FuncData, (∀ (s : Shared) (v : Value), BindsTo s fd ⟨[v], []⟩ [("script", v)]) ∧ ∀ base : Heap, K.In base → base.Ns mainGlobals mg → FnOk l.prog w K mg base CX0 14 fa fd ["script"] (spLaw K) := by
  have e := hfa.symm.trans (PySem.W.mg_of X G a_law)
  cases e
  let A : Ad := { f_is_integer := f_is_integer, d_is_integer := (PySem.W.fnOf "is_integer" "is_integer" (defArgs s_is_integer) (defBody s_is_integer) (defScope s_is_integer) .none kV_is_integer dc_is_integer pm_is_integer an_is_integer cd_is_integer ct_is_integer), f_is_integer_from := f_is_integer_from, d_is_integer_from := (PySem.W.fnOf "is_integer_from" "is_integer_from" (defArgs s_is_integer_from) (defBody s_is_integer_from) (defScope s_is_integer_from) .none kV_is_integer_from dc_is_integer_from pm_is_integer_from an_is_integer_from cd_is_integer_from ct_is_integer_from), f_is_key := f_is_key, d_is_key := (PySem.W.fnOf "is_key" "is_key" (defArgs s_is_key) (defBody s_is_key) (defScope s_is_key) .none kV_is_key dc_is_key pm_is_key an_is_key cd_is_key ct_is_key), f_check_arms := f_check_arms, d_check_arms := (PySem.W.fnOf "check_arms" "check_arms" (defArgs s_check_arms) (defBody s_check_arms) (defScope s_check_arms) .none kV_check_arms dc_check_arms pm_check_arms an_check_arms cd_check_arms ct_check_arms), f_check_many := f_check_many, d_check_many := (PySem.W.fnOf "check_many" "check_many" (defArgs s_check_many) (defBody s_check_many) (defScope s_check_many) .none kV_check_many dc_check_many pm_check_many an_check_many cd_check_many ct_check_many), f_check_place := f_check_place, d_check_place := (PySem.W.fnOf "check_place" "check_place" (defArgs s_check_place) (defBody s_check_place) (defScope s_check_place) .none kV_check_place dc_check_place pm_check_place an_check_place cd_check_place ct_check_place), f_row_of := f_row_of, d_row_of := (PySem.W.fnOf "row_of" "row_of" (defArgs s_row_of) (defBody s_row_of) (defScope s_row_of) .none kV_row_of dc_row_of pm_row_of an_row_of cd_row_of ct_row_of), f_check_count := f_check_count, d_check_count := (PySem.W.fnOf "check_count" "check_count" (defArgs s_check_count) (defBody s_check_count) (defScope s_check_count) .none kV_check_count dc_check_count pm_check_count an_check_count cd_check_count ct_check_count), f_t___init__ := f_t___init__, d_t___init__ := (PySem.W.fnOf "__init__" "Tree.__init__" (defArgs s_t___init__) (defBody s_t___init__) (defScope s_t___init__) .none (.ref D_t___init__) dc_t___init__ pm_t___init__ an_t___init__ cd_t___init__ ct_t___init__), f_t_of := f_t_of, d_t_of := (PySem.W.fnOf "of" "Tree.of" (defArgs s_t_of) (defBody s_t_of) (defScope s_t_of) .none (.ref D_t_of) dc_t_of pm_t_of an_t_of cd_t_of ct_t_of), f_t___len__ := f_t___len__, d_t___len__ := (PySem.W.fnOf "__len__" "Tree.__len__" (defArgs s_t___len__) (defBody s_t___len__) (defScope s_t___len__) .none kV_t___len__ dc_t___len__ pm_t___len__ an_t___len__ cd_t___len__ ct_t___len__), f_t___iter__ := f_t___iter__, d_t___iter__ := (PySem.W.fnOf "__iter__" "Tree.__iter__" (defArgs s_t___iter__) (defBody s_t___iter__) (defScope s_t___iter__) .none kV_t___iter__ dc_t___iter__ pm_t___iter__ an_t___iter__ cd_t___iter__ ct_t___iter__), f_t___getitem__ := f_t___getitem__, d_t___getitem__ := (PySem.W.fnOf "__getitem__" "Tree.__getitem__" (defArgs s_t___getitem__) (defBody s_t___getitem__) (defScope s_t___getitem__) .none kV_t___getitem__ dc_t___getitem__ pm_t___getitem__ an_t___getitem__ cd_t___getitem__ ct_t___getitem__), f_t_parent := f_t_parent, d_t_parent := (PySem.W.fnOf "parent" "Tree.parent" (defArgs s_t_parent) (defBody s_t_parent) (defScope s_t_parent) .none kV_t_parent dc_t_parent pm_t_parent an_t_parent cd_t_parent ct_t_parent), f_faults := f_faults, d_faults := (PySem.W.fnOf "faults" "faults" (defArgs s_faults) (defBody s_faults) (defScope s_faults) .none (.ref D_faults) dc_faults pm_faults an_faults cd_faults ct_faults), f_heap_of := f_heap_of, d_heap_of := (PySem.W.fnOf "heap_of" "heap_of" (defArgs s_heap_of) (defBody s_heap_of) (defScope s_heap_of) .none kV_heap_of dc_heap_of pm_heap_of an_heap_of cd_heap_of ct_heap_of), f_f___init__ := f_f___init__, d_f___init__ := (PySem.W.fnOf "__init__" "Front.__init__" (defArgs s_f___init__) (defBody s_f___init__) (defScope s_f___init__) .none kV_f___init__ dc_f___init__ pm_f___init__ an_f___init__ cd_f___init__ ct_f___init__), f_f___eq__ := f_f___eq__, d_f___eq__ := (PySem.W.fnOf "__eq__" "Front.__eq__" (defArgs s_f___eq__) (defBody s_f___eq__) (defScope s_f___eq__) .none kV_f___eq__ dc_f___eq__ pm_f___eq__ an_f___eq__ cd_f___eq__ ct_f___eq__), f_f___len__ := f_f___len__, d_f___len__ := (PySem.W.fnOf "__len__" "Front.__len__" (defArgs s_f___len__) (defBody s_f___len__) (defScope s_f___len__) .none kV_f___len__ dc_f___len__ pm_f___len__ an_f___len__ cd_f___len__ ct_f___len__), f_front := f_front, d_front := (PySem.W.fnOf "front" "front" (defArgs s_front) (defBody s_front) (defScope s_front) .none (.ref D_front) dc_front pm_front an_front cd_front ct_front), f_least_keys := f_least_keys, d_least_keys := (PySem.W.fnOf "least_keys" "least_keys" (defArgs s_least_keys) (defBody s_least_keys) (defScope s_least_keys) .none (.ref D_least_keys) dc_least_keys pm_least_keys an_least_keys cd_least_keys ct_least_keys), f_counted_heap_of := f_counted_heap_of, d_counted_heap_of := (PySem.W.fnOf "counted_heap_of" "counted_heap_of" (defArgs s_counted_heap_of) (defBody s_counted_heap_of) (defScope s_counted_heap_of) .none kV_counted_heap_of dc_counted_heap_of pm_counted_heap_of an_counted_heap_of cd_counted_heap_of ct_counted_heap_of), f__law_number := f__law_number, d__law_number := (PySem.W.fnOf "_law_number" "_law_number" (defArgs s__law_number) (defBody s__law_number) (defScope s__law_number) .none kV__law_number dc__law_number pm__law_number an__law_number cd__law_number ct__law_number), f__law_heap := f__law_heap, d__law_heap := (PySem.W.fnOf "_law_heap" "_law_heap" (defArgs s__law_heap) (defBody s__law_heap) (defScope s__law_heap) .none kV__law_heap dc__law_heap pm__law_heap an__law_heap cd__law_heap ct__law_heap), f__law_walked := f__law_walked, d__law_walked := (PySem.W.fnOf "_law_walked" "_law_walked" (defArgs s__law_walked) (defBody s__law_walked) (defScope s__law_walked) .none kV__law_walked dc__law_walked pm__law_walked an__law_walked cd__law_walked ct__law_walked), f__law_right := f__law_right, d__law_right := (PySem.W.fnOf "_law_right" "_law_right" (defArgs s__law_right) (defBody s__law_right) (defScope s__law_right) .none kV__law_right dc__law_right pm__law_right an__law_right cd__law_right ct__law_right), f_law := fa, d_law := (PySem.W.fnOf "law" "law" (defArgs s_law) (defBody s_law) (defScope s_law) .none kV_law dc_law pm_law an_law cd_law ct_law), C := C, CF := CF, po := po }
  have T : Tx K mg A := {
    F_is_integer := (fun_mk (st := s_is_integer) l_is_integer c_is_integer k_is_integer)
    m_is_integer := PySem.W.mg_of X G a_is_integer
    F_is_integer_from := (fun_mk (st := s_is_integer_from) l_is_integer_from c_is_integer_from k_is_integer_from)
    m_is_integer_from := PySem.W.mg_of X G a_is_integer_from
    F_is_key := (fun_mk (st := s_is_key) l_is_key c_is_key k_is_key)
    m_is_key := PySem.W.mg_of X G a_is_key
    F_check_arms := (fun_mk (st := s_check_arms) l_check_arms c_check_arms k_check_arms)
    m_check_arms := PySem.W.mg_of X G a_check_arms
    F_check_many := (fun_mk (st := s_check_many) l_check_many c_check_many k_check_many)
    m_check_many := PySem.W.mg_of X G a_check_many
    F_check_place := (fun_mk (st := s_check_place) l_check_place c_check_place k_check_place)
    m_check_place := PySem.W.mg_of X G a_check_place
    F_row_of := (fun_mk (st := s_row_of) l_row_of c_row_of k_row_of)
    m_row_of := PySem.W.mg_of X G a_row_of
    F_check_count := (fun_mk (st := s_check_count) l_check_count c_check_count k_check_count)
    m_check_count := PySem.W.mg_of X G a_check_count
    F_t___init__ := ⟨⟨_, _, _, _, _, _, _, _, _, _, rfl, l_t___init__, c_t___init__, .inl ⟨rfl, rfl⟩, .inr ⟨_, rfl, fun q hq => by rw [List.mem_singleton.mp hq]; exact ⟨_, w_t___init__, relI _ _⟩⟩⟩, k_t___init__⟩
    F_t_of := ⟨⟨_, _, _, _, _, _, _, _, _, _, rfl, l_t_of, c_t_of, .inl ⟨rfl, rfl⟩, .inr ⟨_, rfl, fun q hq => by rw [List.mem_singleton.mp hq]; exact ⟨_, w_t_of, relI _ _⟩⟩⟩, k_t_of⟩
    F_t___len__ := (fun_mk (st := s_t___len__) l_t___len__ c_t___len__ k_t___len__)
    D_t___len__ := ⟨a_t___len__, i_t___len__, n_t___len__⟩
    F_t___iter__ := (fun_mk (st := s_t___iter__) l_t___iter__ c_t___iter__ k_t___iter__)
    D_t___iter__ := ⟨a_t___iter__, i_t___iter__, n_t___iter__⟩
    F_t___getitem__ := (fun_mk (st := s_t___getitem__) l_t___getitem__ c_t___getitem__ k_t___getitem__)
    D_t___getitem__ := ⟨a_t___getitem__, i_t___getitem__, n_t___getitem__⟩
    F_t_parent := (fun_mk (st := s_t_parent) l_t_parent c_t_parent k_t_parent)
    M_t_parent := ⟨a_t_parent, i_t_parent, k_t_parent⟩
    F_faults := ⟨⟨_, _, _, _, _, _, _, _, _, _, rfl, l_faults, c_faults, .inl ⟨rfl, rfl⟩, .inr ⟨_, rfl, fun q hq => by rw [List.mem_singleton.mp hq]; exact ⟨_, w_faults, relI _ _⟩⟩⟩, k_faults⟩
    m_faults := PySem.W.mg_of X G a_faults
    F_heap_of := (fun_mk (st := s_heap_of) l_heap_of c_heap_of k_heap_of)
    m_heap_of := PySem.W.mg_of X G a_heap_of
    F_f___init__ := (fun_mk (st := s_f___init__) l_f___init__ c_f___init__ k_f___init__)
    F_f___eq__ := (fun_mk (st := s_f___eq__) l_f___eq__ c_f___eq__ k_f___eq__)
    F_f___len__ := (fun_mk (st := s_f___len__) l_f___len__ c_f___len__ k_f___len__)
    D_f___len__ := ⟨a_f___len__, i_f___len__, n_f___len__⟩
    F_front := ⟨⟨_, _, _, _, _, _, _, _, _, _, rfl, l_front, c_front, .inl ⟨rfl, rfl⟩, .inr ⟨_, rfl, fun q hq => by rw [List.mem_singleton.mp hq]; exact ⟨_, w_front, relI _ _⟩⟩⟩, k_front⟩
    m_front := PySem.W.mg_of X G a_front
    F_least_keys := ⟨⟨_, _, _, _, _, _, _, _, _, _, rfl, l_least_keys, c_least_keys, .inl ⟨rfl, rfl⟩, .inr ⟨_, rfl, fun q hq => by rw [List.mem_singleton.mp hq]; exact ⟨_, w_least_keys, relI _ _⟩⟩⟩, k_least_keys⟩
    m_least_keys := PySem.W.mg_of X G a_least_keys
    F_counted_heap_of := (fun_mk (st := s_counted_heap_of) l_counted_heap_of c_counted_heap_of k_counted_heap_of)
    m_counted_heap_of := PySem.W.mg_of X G a_counted_heap_of
    F__law_number := (fun_mk (st := s__law_number) l__law_number c__law_number k__law_number)
    m__law_number := PySem.W.mg_of X G a__law_number
    F__law_heap := (fun_mk (st := s__law_heap) l__law_heap c__law_heap k__law_heap)
    m__law_heap := PySem.W.mg_of X G a__law_heap
    F__law_walked := (fun_mk (st := s__law_walked) l__law_walked c__law_walked k__law_walked)
    m__law_walked := PySem.W.mg_of X G a__law_walked
    F__law_right := (fun_mk (st := s__law_right) l__law_right c__law_right k__law_right)
    m__law_right := PySem.W.mg_of X G a__law_right
    F_law := (fun_mk (st := s_law) l_law c_law k_law)
    m_law := PySem.W.mg_of X G a_law
    c_GREATEST_KEY := .inr ⟨_, PySem.W.mg_of X G q_GREATEST_KEY⟩
    c_MOST_ARMS := .inr ⟨_, PySem.W.mg_of X G q_MOST_ARMS⟩
    c_MOST_PLACES := .inr ⟨_, PySem.W.mg_of X G q_MOST_PLACES⟩
    g_bool := PySem.W.mg_none_of X G z_bool
    g_enumerate := PySem.W.mg_none_of X G z_enumerate
    g_int := PySem.W.mg_none_of X G z_int
    g_isinstance := PySem.W.mg_none_of X G z_isinstance
    g_iter := PySem.W.mg_none_of X G z_iter
    g_len := PySem.W.mg_none_of X G z_len
    g_list := PySem.W.mg_none_of X G z_list
    g_min := PySem.W.mg_none_of X G z_min
    g_range := PySem.W.mg_none_of X G z_range
    g_sorted := PySem.W.mg_none_of X G z_sorted
    g_sum := PySem.W.mg_none_of X G z_sum
    g_tuple := PySem.W.mg_none_of X G z_tuple
    cT := ⟨pg, hd, po_, sa⟩
    nMany := na_nMany
    nArms := na_nArms
    nPl := na_nPl
    mC := PySem.W.mg_of X G aC
    mkC := ⟨mk, a_t___init__, i_t___init__, kc⟩
    cr := ⟨rd, ga⟩
    cof := ⟨a_t_of, ⟨_, r_t_of⟩, n_t_of⟩
    cTF := ⟨pgF, hdF, po_F, saF⟩
    fTaken := na_fTaken
    fWait := na_fWait
    mCF := PySem.W.mg_of X G aCF
    mkCF := ⟨mkF, a_f___init__, i_f___init__, kcF⟩
    eqcF := ⟨a_f___eq__, i_f___eq__, eneF, eobF, eniF, entF⟩
    kaF := kaF
    knF := knF
    ktkF := ktkF
    kmF := kmF
    kiF_int := kit_no kclF ktyF eniF
    kiF_tuple := kit_no kclF ktyF entF
  }
  exact ⟨A.d_law, fun s v => .of_eq rfl, fun base _ _ => ok_law T⟩
theorem walk {l : PySem.W.OpenLaw} {q : Program} {loose : List Str} {XP : (Str → Option Value) → Heap → Prop} {YP : World → Heap → Prop} {d : DefRec} {K : Params → PySem.W.Frag} (hn : l.most = some 63) (hdf : d.params.defaults = [])
    (hY : ∀ (w : World) (h : Heap), YP w h → (K w.params).In h)
    (F : ∀ (w : World) (mg : Str → Option Value) (fa : Addr) (h : Heap), (K w.params).In h → h.Ns mainGlobals mg → mg d.name = some (.ref fa) →
      ∃ fd : FuncData, (∀ (s : Shared) (u : Value), BindsTo s fd ⟨[u], []⟩ [("script", u)]) ∧ ∀ base : Heap, (K w.params).In base → base.Ns mainGlobals mg → FnOk l.prog w (K w.params) mg base CX0 14 fa fd ["script"] (spLaw (K w.params))) :
    PySem.W.WalkO q loose XP YP l.row.toRowW d [] (fun f vs => PySem.call f vs) :=
  L2.walk_of (n := 63) (k := 14) (x := "script") (CX := fun _ => CX0) (sp := fun w => spLaw (K w.params)) hn (by decide) hdf ⟨rfl, by decide, by decide⟩ hY F (fun _ _ a ns hl _ hS => ⟨a, ns, rfl, hS, hl, fun _ => rfl⟩) fun _ _ _ _ _ z => z
end Tw

open PySem PySem.W PyProof.Rows in
set_option maxRecDepth 100000 in
set_option maxHeartbeats 0 in
theorem PySem.Challenge.cw_heaprows_k67_whole_fronts_holds : PySem.Challenge.rw_heaprows_k67_whole_fronts.Holds := by
  w_on; o_law; k_head; (case hw => w_witness2)
  k_fill
  refine Tw.walk (l := PySem.Challenge.rw_heaprows_k67_whole_fronts) rfl rfl (fun w h Y => PySem.W.kIn_of Y) ?F
  case F =>
    intro w mg fa h KX G hmg
    refine' Tw.all_mk KX G hmg ?aC ?aCF ?a_is_integer ?l_is_integer ?c_is_integer ?k_is_integer ?a_is_integer_from ?l_is_integer_from ?c_is_integer_from ?k_is_integer_from ?a_is_key ?l_is_key ?c_is_key ?k_is_key ?a_check_arms ?l_check_arms ?c_check_arms ?k_check_arms ?a_check_many ?l_check_many ?c_check_many ?k_check_many ?a_check_place ?l_check_place ?c_check_place ?k_check_place ?a_row_of ?l_row_of ?c_row_of ?k_row_of ?a_check_count ?l_check_count ?c_check_count ?k_check_count ?a_t___init__ ?i_t___init__ ?l_t___init__ ?c_t___init__ ?k_t___init__ ?w_t___init__ ?a_t_of ?r_t_of ?n_t_of ?l_t_of ?c_t_of ?k_t_of ?w_t_of ?a_t___len__ ?i_t___len__ ?n_t___len__ ?l_t___len__ ?c_t___len__ ?k_t___len__ ?a_t___iter__ ?i_t___iter__ ?n_t___iter__ ?l_t___iter__ ?c_t___iter__ ?k_t___iter__ ?a_t___getitem__ ?i_t___getitem__ ?n_t___getitem__ ?l_t___getitem__ ?c_t___getitem__ ?k_t___getitem__ ?a_t_parent ?i_t_parent ?l_t_parent ?c_t_parent ?k_t_parent ?a_faults ?l_faults ?c_faults ?k_faults ?w_faults ?a_heap_of ?l_heap_of ?c_heap_of ?k_heap_of ?a_f___init__ ?i_f___init__ ?l_f___init__ ?c_f___init__ ?k_f___init__ ?a_f___eq__ ?i_f___eq__ ?l_f___eq__ ?c_f___eq__ ?k_f___eq__ ?a_f___len__ ?i_f___len__ ?n_f___len__ ?l_f___len__ ?c_f___len__ ?k_f___len__ ?a_front ?l_front ?c_front ?k_front ?w_front ?a_least_keys ?l_least_keys ?c_least_keys ?k_least_keys ?w_least_keys ?a_counted_heap_of ?l_counted_heap_of ?c_counted_heap_of ?k_counted_heap_of ?a__law_number ?l__law_number ?c__law_number ?k__law_number ?a__law_heap ?l__law_heap ?c__law_heap ?k__law_heap ?a__law_walked ?l__law_walked ?c__law_walked ?k__law_walked ?a__law_right ?l__law_right ?c__law_right ?k__law_right ?a_law ?l_law ?c_law ?k_law ?q_GREATEST_KEY ?q_MOST_ARMS ?q_MOST_PLACES ?z_bool ?z_enumerate ?z_int ?z_isinstance ?z_iter ?z_len ?z_list ?z_min ?z_range ?z_sorted ?z_sum ?z_tuple ?pg ?hd ?po_ ?sa ?na_nMany ?na_nArms ?na_nPl ?mk ?kc ?rd ?ga ?pgF ?hdF ?po_F ?saF ?na_fTaken ?na_fWait ?mkF ?kcF ?eneF ?eobF ?eniF ?entF ?kaF ?knF ?ktkF ?kmF ?kclF ?ktyF
    (case aC => k_is)
    (case aCF => k_is)
    (case a_is_integer => k_is)
    (case l_is_integer => k_is)
    (case c_is_integer => k_is)
    (case k_is_integer => k_is)
    (case a_is_integer_from => k_is)
    (case l_is_integer_from => k_is)
    (case c_is_integer_from => k_is)
    (case k_is_integer_from => k_is)
    (case a_is_key => k_is)
    (case l_is_key => k_is)
    (case c_is_key => k_is)
    (case k_is_key => k_is)
    (case a_check_arms => k_is)
    (case l_check_arms => k_is)
    (case c_check_arms => k_is)
    (case k_check_arms => k_is)
    (case a_check_many => k_is)
    (case l_check_many => k_is)
    (case c_check_many => k_is)
    (case k_check_many => k_is)
    (case a_check_place => k_is)
    (case l_check_place => k_is)
    (case c_check_place => k_is)
    (case k_check_place => k_is)
    (case a_row_of => k_is)
    (case l_row_of => k_is)
    (case c_row_of => k_is)
    (case k_row_of => k_is)
    (case a_check_count => k_is)
    (case l_check_count => k_is)
    (case c_check_count => k_is)
    (case k_check_count => k_is)
    (case a_t___init__ => k_is)
    (case i_t___init__ => k_is)
    (case l_t___init__ => k_is)
    (case c_t___init__ => k_is)
    (case k_t___init__ => k_is)
    (case w_t___init__ => k_is)
    (case a_t_of => k_is)
    (case r_t_of => k_is)
    (case n_t_of => k_is)
    (case l_t_of => k_is)
    (case c_t_of => k_is)
    (case k_t_of => k_is)
    (case w_t_of => k_is)
    (case a_t___len__ => k_is)
    (case i_t___len__ => k_is)
    (case n_t___len__ => k_is)
    (case l_t___len__ => k_is)
    (case c_t___len__ => k_is)
    (case k_t___len__ => k_is)
    (case a_t___iter__ => k_is)
    (case i_t___iter__ => k_is)
    (case n_t___iter__ => k_is)
    (case l_t___iter__ => k_is)
    (case c_t___iter__ => k_is)
    (case k_t___iter__ => k_is)
    (case a_t___getitem__ => k_is)
    (case i_t___getitem__ => k_is)
    (case n_t___getitem__ => k_is)
    (case l_t___getitem__ => k_is)
    (case c_t___getitem__ => k_is)
    (case k_t___getitem__ => k_is)
    (case a_t_parent => k_is)
    (case i_t_parent => k_is)
    (case l_t_parent => k_is)
    (case c_t_parent => k_is)
    (case k_t_parent => k_is)
    (case a_faults => k_is)
    (case l_faults => k_is)
    (case c_faults => k_is)
    (case k_faults => k_is)
    (case w_faults => k_is)
    (case a_heap_of => k_is)
    (case l_heap_of => k_is)
    (case c_heap_of => k_is)
    (case k_heap_of => k_is)
    (case a_f___init__ => k_is)
    (case i_f___init__ => k_is)
    (case l_f___init__ => k_is)
    (case c_f___init__ => k_is)
    (case k_f___init__ => k_is)
    (case a_f___eq__ => k_is)
    (case i_f___eq__ => k_is)
    (case l_f___eq__ => k_is)
    (case c_f___eq__ => k_is)
    (case k_f___eq__ => k_is)
    (case a_f___len__ => k_is)
    (case i_f___len__ => k_is)
    (case n_f___len__ => k_is)
    (case l_f___len__ => k_is)
    (case c_f___len__ => k_is)
    (case k_f___len__ => k_is)
    (case a_front => k_is)
    (case l_front => k_is)
    (case c_front => k_is)
    (case k_front => k_is)
    (case w_front => k_is)
    (case a_least_keys => k_is)
    (case l_least_keys => k_is)
    (case c_least_keys => k_is)
    (case k_least_keys => k_is)
    (case w_least_keys => k_is)
    (case a_counted_heap_of => k_is)
    (case l_counted_heap_of => k_is)
    (case c_counted_heap_of => k_is)
    (case k_counted_heap_of => k_is)
    (case a__law_number => k_is)
    (case l__law_number => k_is)
    (case c__law_number => k_is)
    (case k__law_number => k_is)
    (case a__law_heap => k_is)
    (case l__law_heap => k_is)
    (case c__law_heap => k_is)
    (case k__law_heap => k_is)
    (case a__law_walked => k_is)
    (case l__law_walked => k_is)
    (case c__law_walked => k_is)
    (case k__law_walked => k_is)
    (case a__law_right => k_is)
    (case l__law_right => k_is)
    (case c__law_right => k_is)
    (case k__law_right => k_is)
    (case a_law => k_is)
    (case l_law => k_is)
    (case c_law => k_is)
    (case k_law => k_is)
    (case q_GREATEST_KEY => k_is)
    (case q_MOST_ARMS => k_is)
    (case q_MOST_PLACES => k_is)
    (case z_bool => k_is)
    (case z_enumerate => k_is)
    (case z_int => k_is)
    (case z_isinstance => k_is)
    (case z_iter => k_is)
    (case z_len => k_is)
    (case z_list => k_is)
    (case z_min => k_is)
    (case z_range => k_is)
    (case z_sorted => k_is)
    (case z_sum => k_is)
    (case z_tuple => k_is)
    (case pg => k_is)
    (case hd => k_is)
    (case po_ => k_is)
    (case sa => k_is)
    (case na_nMany => k_is)
    (case na_nArms => k_is)
    (case na_nPl => k_is)
    (case mk => k_is)
    (case kc => k_is)
    (case rd => k_is)
    (case ga => k_is)
    (case pgF => k_is)
    (case hdF => k_is)
    (case po_F => k_is)
    (case saF => k_is)
    (case na_fTaken => k_is)
    (case na_fWait => k_is)
    (case mkF => k_is)
    (case kcF => k_is)
    (case eneF => k_is)
    (case eobF => k_is)
    (case eniF => k_is)
    (case entF => k_is)
    (case kaF => k_is)
    (case knF => k_is)
    (case ktkF => k_is)
    (case kmF => k_is)
    (case kclF => k_is)
    (case ktyF => k_is)
