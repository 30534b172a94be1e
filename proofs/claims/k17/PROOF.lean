import PyProof.Rows.All
import Wide.All
import OpenK.AllK
import Wide.FinOn
import HandS.ForMost
import HandS.ForExc
import HandS.IsInst
import HandS.MakeKwOnly
import HandS.ClsMeth
import HandS.Conv
import HandS.Codes
import HandS.Walk
import HandS.Style
import HandS.Flow
import HandS.Wide
import HandS.OwnEq
import HandS.OwnIter
import HandS.IterVal
import KE.KOwnIter
import PyProof.FactsAll.tuple_iterator_1
import HandS.Deep
import HandS.SortRule
import KE.GoesMore
import KE.GoesEnum
import KE.KLam
import KE.DataMinKey
import HandS.Base
import HandS.Call
import HandS.List
import HandS.Comp
import HandS.Lambda
import HandS.Nested
import HandS.Keys
import HandS.SortInts
import PyProof.NeKinds
import HandS.SetFor
import HandS.Strs
import HandS.TupSets
import KE.SortData
import HandS.Gcd
import KE.KMathGC
import HandS.Sort
import PyProof.AutoSeq1
import KE.KTurns
import HandS.TupLe
import KE.KSortTup
import HandS.Defaults
import HandS.Zip
import HandS.TryOnly
import HandS.TupAny
import KE.DataFind
import PyProof.SumWalkG
import KE.DataMinMax
import KE.KNestM
import HandS.EndTab
import HandS.Rev
import PySem.Challenge.RW_heaprows_k17_whole_pushes
set_option Elab.async false
set_option maxRecDepth 100000
set_option Elab.async false
set_option linter.all false
set_option maxRecDepth 100000
set_option maxHeartbeats 2000000
namespace Tw
open PySem PySem.Spec PyProof.Rows L2

/-! own rules: an instance with dunder methods -/
/-- a dunder method of the class at C, its def at f -/
structure Dn (K : PySem.W.Frag) (C : Addr) (m : Str) (f : Addr) : Prop where
  at_ : PySem.W.findIn K (.ref C) m = some (some (.ref f))
  fn : PySem.W.isFn K (.ref f) = true
  fi : PySem.W.fnIn K f = true


section
variable {X : Cx} {CX : CXT} {k n : Nat} {f C : Addr} {fd : FuncData} {ps : List Str} {sp : Sp} {E : XK} {o e : Expr} {pos : Pos} {ta tb : TE} {A1 : Around}
  {pins : List (Addr × Obj)} {σ : L2.St} {H : Hp} {s : Shared} {Q : VK}
theorem Sub.env0 (sb : Sub X n A1) (I : Inv X pins σ H s) : Env0 X.prog X.w X.K X.mg X.base A1 X.stack s H := by
  have q := I.env0
  exact ⟨by rw [sb.fr]; exact q.frames, q.mod, q.bs, q.bsz, q.funs, q.frf, q.hok, q.bare⟩
theorem run_sub {us : List Value} {vs : List V} (F : FnOk X.prog X.w X.K X.mg X.base CX k f fd ps sp) (sb : Sub X k A1) (hb : Binds X.K fd ps []) (hx : Passes CX X E) (I : Inv X pins σ H s) (r : Vals vs us) (h : sp vs H Q E) :
    wpAny (model X.prog X.w) A1 (call (.ref f) us) (EP X pins σ Q) X.xe s := by
  have hl : us.length = ps.length := by rw [← r.length]; exact F.len _ _ _ _ h
  have hb1 : BindsTo s fd ⟨us, []⟩ (ps.zip us) := by
    have z := hb s us I.kIn (by rw [List.append_nil]; exact hl)
    rw [List.append_nil] at z
    exact z
  refine wpAny_call (codeAny_mono (F.run A1 X.stack s H ⟨us, []⟩ us vs Q E sb.room (Sub.env0 sb I) hb1 r h) fun z s' hq => ?_)
  match z, hq with
  | .error e, hq => exact hx pins σ H s e s' I hq
  | .ok (.ret u), hq => exact I.after hq
  | .ok .next, hq => exact False.elim hq
  | .ok .brk, hq => exact False.elim hq
  | .ok .cont, hq => exact False.elim hq
theorem relR (a : Addr) : RelV (V.ref a) (Value.ref a) := rfl
theorem relB (b : Bool) : RelV (V.bl b) (Value.bool b) := rfl
theorem relI (i : Int) (t : Tok) : RelV (V.int i) (Value.int i t) := ⟨t, rfl⟩
/-- o[e] by the class's own def -/
def tGi (C : Addr) (sp : Sp) (E : XK) (ta tb : TE) : TE := fun σ H Q => ta σ H fun x H1 => tb σ H1 fun y H2 =>
  ∃ a dx fs, x = .ref a ∧ H2 a = some (.ins C dx fs) ∧ sp [.ref a, y] H2 Q E
theorem pe_gi (hd : Dn X.K C "__getitem__" f) (F : FnOk X.prog X.w X.K X.mg X.base CX k f fd ps sp) (hr : Room (k + 1) X.A) (hb : Binds X.K fd ps []) (hx : Passes CX X E) (ho : PE X o ta) (he : PE X e tb)
    (hs : ∀ v u, subscripted e true v u = runValue (.builtin "lifetime.subscript" ⟨[v, u], []⟩) := by intro _ _; with_unfolding_all rfl) :
    PE X (.Subscript o e pos) (tGi C sp E ta tb) := by
  refine ⟨fun pins s σ H Q I h => ?_⟩
  refine Subscript_ (binT ho he (R := fun x y H2 => ∃ a dx fs, x = .ref a ∧ H2 a = some (.ins C dx fs) ∧ sp [.ref a, y] H2 Q E) I h fun v u s2 x y H2 I2 rx ry ⟨a, dx, fs, ex, ha, q⟩ => ?_)
  subst ex
  obtain rfl : v = Value.ref a := rx
  obtain ⟨mA, O, rr, _, _, _⟩ := ins_get I2.hok ha
  obtain ⟨od, J, hl⟩ := O.look
  obtain ⟨m0, hF⟩ := I2.fr
  exact PySem.W.sub_K hF I2.ok.mod.kin J hd.at_ hd.fi hd.fn (run_sub F (Sub.in1 ⟨hr, rfl⟩) hb hx I2 (.cons (relR a) (.cons ry .nil)) q) (hs _ _)
/-- e in o, by the class's own def -/
def rIn (C : Addr) (sp : Sp) (E : XK) (neg : Bool) : R2 := fun x y H Q =>
  ∃ a dx fs, y = .ref a ∧ H a = some (.ins C dx fs) ∧ sp [.ref a, x] H (fun v H' => ∃ b, v = .bl b ∧ Q (.bl (if neg then !b else b)) H') E
theorem op_in_own (hd : Dn X.K C "__contains__" f) (F : FnOk X.prog X.w X.K X.mg X.base CX k f fd ps sp) (hr : Room k X.A) (hb : Binds X.K fd ps []) (hx : Passes CX X E) : OpR X (compareOp .In) (rIn C sp E false) := by
  intro pins s σ H x y v u Q I rx ry ⟨a, dx, fs, ey, ha, q⟩
  subst ey
  obtain rfl : u = Value.ref a := ry
  obtain ⟨mA, O, rr, _, _, _⟩ := ins_get I.hok ha
  obtain ⟨od, J, hl⟩ := O.look
  obtain ⟨m0, hF⟩ := I.fr
  refine PySem.W.in_K hF I.ok.mod.kin J hd.at_ hd.fn (thn (run_sub F ⟨hr, rfl⟩ hb hx I (.cons (relR a) (.cons rx .nil)) q) fun r s' ⟨z, H', I', rz, b, ez, q'⟩ => ?_)
  subst ez
  obtain rfl : r = Value.bool b := rz
  exact wpAny_truthy_bool ⟨_, _, I', relB b, q'⟩
/-- len(o) by the class's own def -/
def rLenO (C : Addr) (sp : Sp) (E : XK) : List V → Hp → VK → Prop := fun xs H Q =>
  ∃ a dx fs, xs = [.ref a] ∧ H a = some (.ins C dx fs) ∧ sp [.ref a] H (fun v H' => ∃ n : Nat, v = .int n ∧ n < 1000 ∧ Q (.int n) H') E
theorem call_len_own (hd : Dn X.K C "__len__" f) (F : FnOk X.prog X.w X.K X.mg X.base CX k f fd ps sp) (hr : Room (k + 1) X.A) (hb : Binds X.K fd ps []) (hx : Passes CX X E) : CallR X (.builtin "len") (rLenO C sp E) := by
  intro pins s σ H xs us Q I rv ⟨a, dx, fs, ex, ha, q⟩
  subst ex
  obtain ⟨u, rfl, ru⟩ := rv.one
  obtain rfl : u = Value.ref a := ru
  obtain ⟨mA, O, rr, _, _, _⟩ := ins_get I.hok ha
  obtain ⟨od, J, hl⟩ := O.look
  obtain ⟨m0, hF⟩ := I.fr
  refine PySem.W.len_K hF I.ok.mod.kin J hd.at_ hd.fn (thn (run_sub F (Sub.in1 ⟨hr, rfl⟩) hb hx I (.cons (relR a) .nil) q) fun r s' ⟨z, H', I', rz, n, ez, hn, q'⟩ => ?_)
  subst ez
  obtain ⟨t, rfl⟩ := rz
  exact ⟨⟨by omega, by omega⟩, _, _, I'.tok _, relI _ _, q'⟩
end

/-! for x in o, o an instance whose __iter__ says: return iter(self.F), F a tuple -/
def itTup (t : Addr) (i : Nat) : Obj := { cls := .type "tuple_iterator", data := .fields #[.ref t, .int (i : Nat) 0] }
def ItT (t it : Addr) (i : Nat) : HO := .ext fun h => h.get? it = some (itTup t i)
def rIterT (K : PySem.W.Frag) (n : Nat) : List V → Hp → VK → Prop := fun xs H Q => ∃ (t : Addr) (zs : List V), xs = [.ref t] ∧ SqT K H t zs ∧ ∀ it, H it = Option.none → n ≤ it → Q (.ref it) (upd H it (ItT t it 0))
section
variable {X : Cx}
theorem call_iterT : CallR X (.builtin "iter") (rIterT X.K X.s_0.heap.objs.size) := by
  intro pins s σ H xs us Q I r ⟨t, zs, e, hq, q⟩
  subst e
  obtain ⟨u, rfl, ru⟩ := r.one
  obtain rfl : u = Value.ref t := ru
  obtain ⟨its, rv, pl, hz⟩ := I.tuple hq
  refine Calls.call_function_entry (by decide +kernel) (by decide +kernel) PySem.W.kdk_entry_iter (PySem.W.kdk_args_iter _) ?_
  unfold Builtin.«iter»
  refine wpAny_bind (m := someArgs "iter" 1 2 _) (wpAny_of_eq (a := [Value.ref t]) (by first | rfl | kernel_rfl!) ?_)
  show wpAny _ _ (pyIter (.ref t) >>= _) _ _ _
  refine wpAny_bind (wpAny_pyIter_tuple (show s.heap.IsTuple t its.toArray from pl) ?_)
  have g : (s.heap.push (itTup t 0)).get? s.heap.objs.size = some (itTup t 0) := Heap.get?_push_size _ rfl
  have ok : ObjOk X.prog X.w (upd H s.heap.objs.size (ItT t s.heap.objs.size 0)) (s.heap.push (itTup t 0)) s.heap.objs.size (ItT t s.heap.objs.size 0) := ⟨g, ⟨_, g⟩, fun _ _ q k => k _ q⟩
  exact wpAny_pure ⟨_, rfl, .ref s.heap.objs.size, _, I.laid (t' := s.toks) (fun b u e => Heap.get?_push_of_some _ e) (Nat.le_refl _) ok, relR _, q _ (I.hok.fresh (Nat.le_refl _)) I.sz⟩
end

/-- a promise that may speak of how many objects there are when the def is called -/
def FnIt (P : Program) (w : World) (K : PySem.W.Frag) (mg : Str → Option Value) (base : Heap) (k : Nat) (f : Addr) (fd : FuncData) (ps : List Str) (sp : Nat → List V → Hp → VK → Prop) : Prop :=
  ∀ (A : Around) (outer : List Env) (s : Shared) (H : Hp) (us : List Value) (vs : List V) (Q : VK), Room k A → Env0 P w K mg base A outer s H → BindsTo s fd ⟨us, []⟩ (ps.zip us) → vs.length = ps.length → Vals vs us →
    sp s.heap.objs.size vs H Q → codeAny (model P w) A (.call (.ref f) ⟨us, []⟩) (CR CX0 outer P w H s Q E0) s
section
variable {P : Program} {w : World} {K : PySem.W.Frag} {mg : Str → Option Value} {base : Heap}
theorem fnIt_of {x qual : Str} {st : Stmt} {f : Addr} {fd : FuncData} {N ps : List Str} {k : Nat} {sp : Nat → List V → Hp → VK → Prop} (F : Fun K x qual st f fd) (S : FnScope N ps (defScope st))
    (hbody : ∀ (cdv : Value) (A : Around) (outer : List Env) (s : Shared) (H : Hp) (vs : List V) (Q : VK), Room k (A.deeper (envOfC qual (defScope st) s.heap.objs.size f cdv)) → sp s.heap.objs.size vs H Q →
      ∃ t, PSs (cxOf CX0 P w K mg base N qual (defScope st) f cdv A outer s H E0).nox (defBody st) t ∧ t { nx := fun _ H' => Q .non H', rt := Q } (start N vs) H) : FnIt P w K mg base (k + 1) f fd ps sp := by
  obtain ⟨oc, od, kV, doc, pm, an, cdv, ct, osl, rfl, lk, hcd⟩ := F.ex
  intro A outer s H us vs Q hr e0 hb hl r hsp
  have kin : K.In s.heap := e0.mod.kin.keeps fun b o e => (e0.bs b o e).1
  have lim : s.heap.NoLimit := e0.mod.nolimit.keeps fun b o e => (e0.bs b o e).1
  have kinds : ∀ y ∈ ps.zip us, (defScope st).names.lookup y.1 = some .local ∨ ((defScope st).names.lookup y.1 = some .cell ∧ ((cellsFrom (s.heap.objs.size + 1) (defScope st).names []).lookup y.1).isSome = true) := by
    intro y hy
    cases S.par y.1 (List.of_mem_zip (a := y.1) (b := y.2) hy).1 with
    | inl q => exact .inl q
    | inr q => exact .inr ⟨q, PySem.W.cellsFrom_some _ _ _ (.inl q)⟩
  apply codeAny_call_function hr.depth (kin _ _ lk) rfl S.co S.gen rfl (PySem.W.codeRec_of kin hcd) (hb _ _ _ _ ?_)
  apply wpAny_newFunctionEnv_cells S.kind kinds
  intro env he s1 x
  subst he
  refine ⟨lim.keeps x.toInCall.keep, codeAny_func ?_⟩
  obtain ⟨t, ht, hq⟩ := hbody cdv A outer s H vs Q (hr.deeper _) hsp
  have I := inv_start (CX := CX0) (P := P) (w := w) (E := E0) (cd := cdv) (qual := qual) (f := f) (outer := outer) S hr.hd e0 hl r x
  refine wpAny_mono (ht.nox.run [] s1 (start N vs) H _ I hq) (fun fl s' hs => ?_) fun e s' hs => hs
  match fl, hs with
  | .ret u, ⟨v, σ', H', J, rv, q⟩ => exact ⟨v, H', J.os, J.bare, J.base, J.hok, rv, q⟩
  | .next, ⟨σ', H', J, q⟩ => exact ⟨V.non, H', J.os, J.bare, J.base, J.hok, rfl, q⟩
  | .brk, ⟨_, _, _, q⟩ => exact False.elim q
  | .cont, ⟨_, _, _, q⟩ => exact False.elim q
end
/-- what such an __iter__ promises -/
def spIter (K : PySem.W.Frag) (C : Addr) (fld : Str) : Nat → List V → Hp → VK → Prop := fun n vs H Q => ∃ a dx fs t zs, vs = [.ref a] ∧ H a = some (.ins C dx fs) ∧ fs.lookup fld = some (.ref t) ∧ SqT K H t zs ∧
  ∀ it, H it = Option.none → n ≤ it → Q (.ref it) (upd H it (ItT t it 0))
/-- x in o, for a loop: o's own tuple is walked -/
def iOwn (K : PySem.W.Frag) (C : Addr) (fld : Str) (to : TE) : TI := fun σ H R => to σ H fun x H1 => ∃ a dx fs t zs, x = .ref a ∧ H1 a = some (.ins C dx fs) ∧ fs.lookup fld = some (.ref t) ∧ SqT K H1 t zs ∧ R (Itt K t) H1
section
variable {X : Cx} {k : Nat} {f C : Addr} {fd : FuncData} {fld : Str} {tg o : Expr} {to : TE} {pins : List (Addr × Obj)} {σ : L2.St} {H : Hp} {s : Shared} {A1 : Around}
theorem run_iter {a t dx : Addr} {fs : List (Str × V)} {zs : List V} (F : FnIt X.prog X.w X.K X.mg X.base k f fd ["self"] (spIter X.K C fld)) (sb : Sub X k A1) (hb : Binds X.K fd ["self"] []) (I : Inv X pins σ H s)
    (ha : H a = some (.ins C dx fs)) (hf : fs.lookup fld = some (.ref t)) (ht : SqT X.K H t zs) {E : Value → Shared → Prop} :
    wpAny (model X.prog X.w) A1 (call (.ref f) [.ref a]) (fun u s' => ∃ it, u = .ref it ∧ s.heap.objs.size ≤ it ∧ H it = Option.none ∧ Inv X pins σ (upd H it (ItT t it 0)) s') E s := by
  have hb1 : BindsTo s fd ⟨[.ref a], []⟩ ((["self"] : List Str).zip [Value.ref a]) := by
    have z := hb s [.ref a] I.kIn rfl
    exact z
  refine wpAny_call (codeAny_mono (F A1 X.stack s H [.ref a] [.ref a] (fun v H' => ∃ it, v = .ref it ∧ s.heap.objs.size ≤ it ∧ H it = Option.none ∧ H' = upd H it (ItT t it 0)) sb.room (Sub.env0 sb I) hb1 rfl (.cons (relR a) .nil)
    ⟨a, dx, fs, t, zs, rfl, ha, hf, ht, fun it h0 hn => ⟨it, rfl, hn, h0, rfl⟩⟩) fun z s' hq => ?_)
  match z, hq with
  | .error e, hq => exact hq.elim
  | .ok (.ret u), hq =>
    obtain ⟨v, H', I', rv, it, ev, hn, h0, eH⟩ := I.after hq
    subst ev
    rw [eH] at I'
    obtain rfl : u = Value.ref it := rv
    exact ⟨it, rfl, hn, h0, I'⟩
  | .ok .next, hq => exact False.elim hq
  | .ok .brk, hq => exact False.elim hq
  | .ok .cont, hq => exact False.elim hq
theorem pi_own (hd : Dn X.K C "__iter__" f) (F : FnIt X.prog X.w X.K X.mg X.base k f fd ["self"] (spIter X.K C fld)) (hr : Room k X.A) (hb : Binds X.K fd ["self"] []) (ho : PE X o to) : PI X tg o (iOwn X.K C fld to) := by
  refine ⟨fun pins s σ H R I h => ?_⟩
  refine thn (ho.run pins s σ H _ I h) fun u s1 ⟨x, H1, I1, rx, a, dx, fs, t, zs, ex, ha, hf, ht, q⟩ => ?_
  subst ex
  obtain rfl : u = Value.ref a := rx
  obtain ⟨mA, O, rr, _, _, _⟩ := ins_get I1.hok ha
  obtain ⟨od, J, hl⟩ := O.look
  obtain ⟨m0, hF⟩ := I1.fr
  refine PySem.W.owit_iter hF I1.ok.mod.kin J hd.at_ hd.fn (thn (run_iter F ⟨hr, rfl⟩ hb I1 ha hf ht) fun r s2 ⟨it, er, hn, h0, I2⟩ => ?_)
  subst er
  have e2 : upd H1 it (ItT t it 0) it = some (ItT t it 0) := upd_same
  have g : s2.heap.get? it = some (itTup t 0) := (I2.hok it _ e2).1
  have hT : s2.TypeIs (.ref it) "tuple_iterator" := ⟨_, g, rfl⟩
  have hfp := ItX.inv_fp I2 e2 (Nat.le_trans I1.sz hn)
  have I3 := ItX.inv_drop I2 e2
  rw [ItX.dropH_upd h0] at I3 hfp
  unfold PySem.W.OwitIt
  refine wpAny_specialOf (name := Str.ofString "__next__") hT PySem.F.slot_tuple_iterator_next.lookup ?_
  refine ⟨it, [it], _, _, H1, rfl, I3, turn_tuple t it, ⟨_, g, rfl, rfl⟩, fun b hb => ?_, q⟩
  rw [List.mem_singleton.mp hb]
  exact hfp
end
/-! C.m(e, .., k = v, ..), m a classmethod; cls(e, .., k = v, ..), cls a local name that holds the class -/
def tCMethK (C : Addr) (n m : Nat) (sp : Sp) (gV : List V → List V → List V) (E : XK) (ta : TE) (t tk : TA) : TE := fun σ H Q => ta σ H fun x H1 => x = .ref C ∧ t σ H1 fun vs H2 => tk σ H2 fun zs H3 => (.ref C :: vs).length = n ∧ zs.length = m ∧ sp (gV (.ref C :: vs) zs) H3 Q E
def tMakeLK (i : Nat) (C : Addr) (n m : Nat) (sp : Sp) (gV : List V → List V → List V) (E : XK) (t tk : TA) : TE := fun σ H Q => σ[i]? = some (some (.ref C)) ∧ tMakeK C n m sp gV E t tk σ H Q
section
variable {X : Cx} {CX : CXT} {k n i : Nat} {C p g f : Addr} {mc : Value} {sp : Sp} {E : XK} {o e : Expr} {es : List Expr} {kws : List Keyword} {m x : Str} {pos apos xpos : Pos} {ta : TE} {t tk : TA} {pl : Sem Bool} {fd : FuncData} {ps ks : List Str}
  {gv : List Value → List Value → List Value} {gV : List V → List V → List V}
theorem pe_cmethK (he : PE X o ta) (r : ClX.CRead X.K C mc) (c : ClX.CMet X.K C mc m p g) (F : FnOk X.prog X.w X.K X.mg X.base CX k g fd ps sp) (hr : Room k X.A) (hb : KBn X.K fd ps n ks gv gV) (hx : Passes CX X E) (ha : PA X (e :: es) t) (hkw : PK X kws tk)
    (hall : (backToKw pos (keywordEach kws X.env)).all (·.1.isSome) = true := by rfl) (hks : (backToKw pos (keywordEach kws X.env)).filterMap (·.1) = ks := by rfl)
    (hst : starEach (e :: es) X.env = (false, eval e X.env) :: starEach es X.env := by rfl) (hpl : ((backTo pos (starEach (e :: es) X.env)).any (·.1) || (backToKw pos (keywordEach kws X.env)).any (·.1.isNone)) = false := by rfl)
    (ht : eval (.Call (.Attribute o m apos) (e :: es) kws pos) X.env = (do
      let ov ← eval o X.env
      standAt apos.atName
      let (f, first) ← holding [ov] (getMethod ov m pl)
      callWith pos f first (backTo pos (starEach (e :: es) X.env)) (backToKw pos (keywordEach kws X.env))) := by rfl) :
    PE X (.Call (.Attribute o m apos) (e :: es) kws pos) (tCMethK C n ks.length sp gV E ta t tk) := by
  refine ⟨fun pins s σ H Q I h => ?_⟩
  refine PySem.W.methodCall_KW (pl := pl) (thn (he.run pins s σ H _ I h) fun u s1 ⟨x, H1, I1, rx, ex, q⟩ => ?_) ht
  subst ex
  obtain rfl : u = Value.ref C := rx
  refine ClX.getmethcm_ok I1 r c fun s2 I2 => ?_
  refine PySem.W.callWith_of (P := PySem.W.MethP X.K s1.heap.objs.size g (.ref C)) hpl (PySem.W.keeps_M c.fi) (evalArgs_kw2 hall (thn (ha.run pos _ s2 σ H1 _ I2 q) fun us s3 ⟨vs, H2, I3, rv, q2⟩ => ?_) hst)
  refine thn (hkw.run pos _ s3 σ H2 _ I3 q2) fun ws s4 ⟨zs, H3, I4, rz, l1, l2, q3⟩ => ⟨⟨ClX.pin_at I4, I4.kIn⟩, ?_⟩
  rw [hks]
  have r2 : Vals (V.ref C :: vs) (Value.ref C :: us) := .cons (relR C) rv
  have n1 : (Value.ref C :: us).length = n := r2.length.symm.trans l1
  have I5 := ClX.unpin I4
  refine wpAny_call (PySem.W.method_call (ClX.pin_at I4) (codeAny_mono (F.run X.A X.stack s4 H3 ⟨Value.ref C :: us, ks.zip ws⟩ _ _ Q E hr I5.env0 (hb.to _ (Value.ref C :: us) ws I5.kIn n1 (rz.length.symm.trans l2)) (hb.rel r2 rz) q3) fun z s' hq => ?_))
  match z, hq with
  | .error e, hq => exact hx pins σ H3 s4 e s' I5 hq
  | .ok (.ret u), hq => exact I5.after hq
  | .ok .next, hq => exact False.elim hq
  | .ok .brk, hq => exact False.elim hq
  | .ok .cont, hq => exact False.elim hq
theorem pe_makeLK (M : Mk X.K C f) (F : FnOk X.prog X.w X.K X.mg X.base CX k f fd ps sp) (hr : Room (k + 1) X.A) (hb : KBn X.K fd ps (n + 1) ks gv gV) (hx : Passes CX X E) (ha : PA X (e :: es) t) (hkw : PK X kws tk)
    (hN : X.N[i]? = some x) (hv : Vis X.env.scope x) (hd : (x == ("__debug__" : Str)) = false := by decide) (hcd : (x == ("__classdict__" : Str)) = false := by decide)
    (hall : (backToKw pos (keywordEach kws X.env)).all (·.1.isSome) = true := by rfl) (hks : (backToKw pos (keywordEach kws X.env)).filterMap (·.1) = ks := by rfl)
    (hst : starEach (e :: es) X.env = (false, eval e X.env) :: starEach es X.env := by rfl) (hpl : ((backTo pos (starEach (e :: es) X.env)).any (·.1) || (backToKw pos (keywordEach kws X.env)).any (·.1.isNone)) = false := by rfl) :
    PE X (.Call (.Name x xpos) (e :: es) kws pos) (tMakeLK i C n ks.length sp gV E t tk) := by
  refine ⟨fun pins s σ H Q I ⟨h0, h⟩ => ?_⟩
  refine wpAny_Call_Name_kw (thn ((pe_var (pos := xpos) (i := i) hN hv hd hcd).run pins s σ H (fun v H1 => v = .ref C ∧ H1 = H) I ⟨.ref C, h0, rfl, rfl⟩) fun u s1 ⟨v, H1, I1, r1, ev, eH⟩ => ?_)
  subst ev
  rw [eH] at I1
  obtain rfl : u = Value.ref C := r1
  refine PySem.W.callWith_KW (h₀ := X.base) I1.ok.mod.kin M.kp hall (thn (ha.run pos pins s1 σ H _ I1 h) fun us s2 ⟨vs, H2, I2, r, q⟩ => ?_) hpl hst
  refine thn (hkw.run pos pins s2 σ H2 _ I2 q) fun ws s3 ⟨zs, H3, I3, rz, l1, l2, q2⟩ => ⟨I3.kIn, ?_⟩
  rw [hks]
  exact run_makeK M F hr hb hx I3 r rz l1 l2 q2
end

/-! heaps that only grow -/
theorem Same.up {H : Hp} {p : Addr} {o : HO} (h : H p = Option.none) : Same H (upd H p o) := fun b u e => by
  rw [upd_ne (ne_of_none e h)]
  exact e
/-- a list under way at D, which was not there in H1 -/
structure Acc (H1 : Hp) (D : Addr) (acc : List V) (H : Hp) : Prop where
  s : Same H1 H
  n : H1 D = Option.none
  a : H D = some (.lst acc)
theorem Acc.start {H1 : Hp} {D : Addr} (n : H1 D = Option.none) : Acc H1 D [] (upd H1 D (.lst [])) := ⟨Same.up n, n, upd_same⟩
theorem Acc.same {H1 H H' : Hp} {D : Addr} {acc : List V} (h : Acc H1 D acc H) (s : Same H H') : Acc H1 D acc H' := ⟨h.s.trans s, h.n, s _ _ h.a⟩
theorem Acc.push {H1 H : Hp} {D : Addr} {acc zs : List V} (h : Acc H1 D acc H) : Acc H1 D zs (upd H D (.lst zs)) :=
  ⟨fun b o e => by rw [upd_ne (ne_of_none e h.n)]; exact h.s b o e, h.n, upd_same⟩
theorem Same.none' {H H' : Hp} (s : Same H H') {p : Addr} (h : H' p = Option.none) : H p = Option.none := s.free h
theorem Same.of_upd {H H' : Hp} {p : Addr} {o : HO} (h : H p = Option.none) (s : Same (upd H p o) H') : Same H H' := (Same.up h).trans s
/-- a list of ints as values -/
theorem ints_at {ns : List Int} {i : Nat} {x : V} (h : (ns.map V.int)[i]? = some x) : ∃ (hi : i < ns.length), x = .int ns[i] := by
  rw [List.getElem?_map] at h
  cases e : ns[i]? with
  | none => rw [e] at h; cases h
  | some u =>
    rw [e] at h
    obtain ⟨hi, rfl⟩ := List.getElem?_eq_some_iff.mp e
    exact ⟨hi, (Option.some.inj h).symm⟩

/-! comprehensions that pick -/
section
variable {α : Type} {H1 H : Hp} {D : Addr} {ks : List α} {f : α → Option V} {i : Nat} {c : α → V}
def PickI (H1 : Hp) (D : Addr) (ks : List α) (f : α → Option V) : Nat → Hp → Prop := fun i H => Acc H1 D ((ks.take i).filterMap f) H
theorem pick_start (n : H1 D = Option.none) : PickI H1 D ks f 0 (upd H1 D (.lst [])) := Acc.start n
theorem take_fm (hi : i < ks.length) : (ks.take (i + 1)).filterMap f = (ks.take i).filterMap f ++ (f ks[i]).toList := by
  rw [List.take_succ_eq_append_getElem hi, List.filterMap_append]
  cases h : f ks[i] <;> simp [h]
theorem pick_yes {H' : Hp} {y : V} (hi : i < ks.length) (hl : ks.length ≤ 1000) (e : f ks[i] = some y) (s : Same H H') (h : PickI H1 D ks f i H) :
    ∃ acc, H' D = some (.lst acc) ∧ acc.length < sizeLine ∧ PickI H1 D ks f (i + 1) (upd H' D (.lst (acc ++ [y]))) := by
  have h2 := Acc.same h s
  refine ⟨_, h2.a, small1000 ?_, ?_⟩
  · exact Nat.le_trans (Nat.le_trans (List.length_filterMap_le _ _) (List.length_take_le _ _)) (by omega)
  · unfold PickI
    rw [take_fm hi, e]
    exact h2.push
theorem pick_no {H' : Hp} (hi : i < ks.length) (e : f ks[i] = none) (s : Same H H') (h : PickI H1 D ks f i H) : PickI H1 D ks f (i + 1) H' := by
  unfold PickI
  rw [take_fm hi, e, Option.toList_none, List.append_nil]
  exact Acc.same h s
theorem pick_end {m : Nat} (hm : m = ks.length) (h : PickI H1 D ks f m H) : Acc H1 D (ks.filterMap f) H := by
  subst hm
  unfold PickI at h
  rw [List.take_length] at h
  exact h
theorem map_at {x : V} (h : (ks.map c)[i]? = some x) : ∃ hi : i < ks.length, x = c ks[i] := by
  rw [List.getElem?_map] at h
  cases e : ks[i]? with
  | none => rw [e] at h; cases h
  | some u =>
    rw [e] at h
    obtain ⟨hi, rfl⟩ := List.getElem?_eq_some_iff.mp e
    exact ⟨hi, (Option.some.inj h).symm⟩
end
end Tw

set_option Elab.async false
set_option linter.all false
set_option maxRecDepth 100000
set_option maxHeartbeats 2000000
namespace Tw
open PySem PySem.Spec PyProof.Rows L2
open PySem.W (InstAt looks_findIn looks_subIn ifBound_K cmp_K)
/-- a class with an own __eq__ and the usual != -/
structure EqC (K : PySem.W.Frag) (C f : Addr) : Prop where
  eq : PySem.W.findIn K (.ref C) "__eq__" = some (some (.ref f))
  fn : PySem.W.isFn K (.ref f) = true
  ne : PySem.W.findIn K (.ref C) "__ne__" = some (some (.builtin "object.__ne__"))
  ob : PySem.W.subIn K (.ref C) (.type "object") = some true
  ni : PySem.W.subIn K (.type "int") (.ref C) = some false
  nt : PySem.W.subIn K (.type "tuple") (.ref C) = some false

section
variable {prog : Program} {w : World} {A : Around} {E : Value → Shared → Prop} {s : Shared} {K : PySem.W.Frag} {x C L f : Addr} {h₀ : Heap} {m : Str → Option Value} {ox : Obj} {od : Option Obj} {b tb : Value}
theorem ne_entry {Q : PySem.Fin → Shared → Prop} (hu : A.units < cLine) (X : K.In s.heap) (I : InstAt s.heap x ox C od) (c : EqC K C f)
    (h : wpAny (model prog w) A (call (.ref f) [.ref x, b]) (fun v s' => ∃ r, v = .bool r ∧ Q (.done (.ret (.bool (!r)))) s') E s) :
    wpAny (model prog w) A (Builtin.«object.__ne__» ⟨[.ref x, b], []⟩) Q E s := by
  unfold Builtin.«object.__ne__»
  refine wpAny_bind (wpAny_of_eq (a := (Value.ref x, [b])) (by first | rfl | kernel_rfl!) ?_)
  refine wpAny_bind (wpAny_cRoomFor hu ?_)
  refine wpAny_bind (m := callSpecialIfBound? (.ref x) (Str.ofString "__eq__") [b]) (ifBound_K X I c.eq c.fn (wpAny_mono h (fun v s' hv => ?_) fun _ _ e => e))
  obtain ⟨r, e, q⟩ := hv
  subst e
  refine wpAny_bind (m := truthy (.bool r)) (wpAny_truthy_bool ?_)
  exact wpAny_pure q
theorem ne_call {Q : Value → Shared → Prop} (hu : A.in1.units < cLine) (X : K.In s.heap) (I : InstAt s.heap x ox C od) (c : EqC K C f)
    (h : wpAny (model prog w) A.in1 (call (.ref f) [.ref x, b]) (fun v s' => ∃ r, v = .bool r ∧ Q (.bool (!r)) s') E s) :
    wpAny (model prog w) A (call (.builtin "object.__ne__") [.ref x, b]) Q E s := by
  have t2 : PySem.W.Looks (model prog w) s.heap (isInstance (.ref x) (.type "object")) true := I.type.andThen (looks_subIn X c.ob)
  refine wpAny_call (codeAny_call_builtin F.cmp_object.ne.plain F.cmpEntry_ne (PySem.W.check_slot F.cmpKind_ne F.cmpSplit_ne t2 (F.cmpArgs_ne _ _) (ne_entry hu X I c (wpAny_mono h (fun v s' hv => ?_) fun _ _ e => e))))
  obtain ⟨r, e, q⟩ := hv
  exact ⟨r, e, q⟩
theorem ne_bound {Q : Option Value → Shared → Prop} (hu : A.in1.units < cLine) (X : K.In s.heap) (I : InstAt s.heap x ox C od) (c : EqC K C f)
    (h : wpAny (model prog w) A.in1 (call (.ref f) [.ref x, b]) (fun v s' => ∃ r, v = .bool r ∧ Q (some (.bool (!r))) s') E s) :
    wpAny (model prog w) A (callSpecialIfBound? (.ref x) "__ne__" [b]) Q E s := by
  simp only [callSpecialIfBound?, bindSpecialIfBound?]
  refine wpAny_holding (wpAny_bind (wpAny_bind (wpAny_bind (I.type.here ((looks_findIn X c.ne).here ?_)))))
  refine wpAny_bind (wpAny_askSetting (wpAny_ite ?_))
  have fin : wpAny (model prog w) A (call (.builtin "object.__ne__") ([.ref x] ++ [b]) >>= fun v => pure (some v)) Q E s :=
    wpAny_bind (ne_call hu X I c (wpAny_mono h (fun v s' ⟨r, e, q⟩ => ⟨r, e, wpAny_pure q⟩) fun _ _ e => e))
  have bd := F.cmp_object.ne.bind (.ref x)
  split
  · refine wpAny_bind ?_
    rw [bd]
    exact wpAny_pure (wpAny_pure (by exact fin))
  · refine wpAny_tryCatch (wpAny_bind ?_)
    rw [bd]
    exact wpAny_pure (wpAny_pure (by exact fin))
theorem ne_K {Q : Value → Shared → Prop} (hu : A.in1.units < cLine) (hu0 : A.units < cLine) (F : Fr h₀ L s.heap m) (X₀ : K.In h₀) (I : InstAt s.heap x ox C od) (hb : PySem.W.Looks (model prog w) s.heap (typeOf b) tb) (hn : PySem.W.notFirst K C tb = true) (c : EqC K C f)
    (h : wpAny (model prog w) A.in1 (call (.ref f) [.ref x, b]) (fun v s' => ∃ r, v = .bool r ∧ Q (.bool (!r)) s') E s) : wpAny (model prog w) A (richCompare .NotEq (.ref x) b) Q E s := by
  have X := X₀.keeps F.keep
  have one : wpAny (model prog w) A (tryCompare (.ref x) (cmpInfo .NotEq).2.1 b) (fun r s' => ∃ v, r = some v ∧ Q v s') E s := by
    unfold tryCompare
    refine wpAny_bind (ne_bound hu X I c (wpAny_mono h (fun v s' ⟨r, e, q⟩ => ⟨r, e, ?_⟩) fun _ _ e => e))
    exact wpAny_pure ⟨_, rfl, q⟩
  have two : ∀ r s', (∃ v, r = some v ∧ Q v s') → ∃ v, r = some v ∧ Q v s' := fun _ _ z => z
  unfold richCompare
  simp only [oneThing_ref]
  refine wpAny_holding (wpAny_bind (wpAny_cRoomFor hu0 ?_))
  refine wpAny_bind (I.type.here (wpAny_bind (hb.here ?_)))
  split
  · rename_i q
    have e : PySem.W.subIn K tb (.ref C) = some false := by
      rcases Bool.or_eq_true_iff.mp hn with e | e
      · rw [beq_iff_eq.mp e] at q; simp at q
      · exact beq_iff_eq.mp e
    refine wpAny_bind ((looks_subIn X e).here ?_)
    simp only [Bool.false_eq_true, if_false]
    refine wpAny_bind (wpAny_mono one (fun r s' ⟨v, ev, hq⟩ => ?_) fun _ _ e => e)
    subst ev
    exact wpAny_pure hq
  · refine wpAny_bind (wpAny_pure ?_)
    simp only [Bool.false_eq_true, if_false]
    refine wpAny_bind (wpAny_mono one (fun r s' ⟨v, ev, hq⟩ => ?_) fun _ _ e => e)
    subst ev
    exact wpAny_pure hq
end
/-! as rules -/
section
variable {X : Cx} {CX : CXT} {k : Nat} {f C : Addr} {fd : FuncData} {ps : List Str} {sp : Sp} {E : XK}
/-- the other operand: an instance of the same class, an int, a tuple -/
inductive Oth (H : Hp) (C : Addr) : V → Prop where
  | ins {a dx : Addr} {fs : List (Str × V)} (h : H a = some (.ins C dx fs)) : Oth H C (.ref a)
  | int (i : Int) : Oth H C (.int i)
  | tup {a : Addr} {xs : List V} (h : H a = some (.tup xs)) : Oth H C (.ref a)
def rEqO (C : Addr) (sp : Sp) (E : XK) (neg : Bool) : R2 := fun x y H Q =>
  ∃ a dx fs, x = .ref a ∧ H a = some (.ins C dx fs) ∧ Oth H C y ∧ sp [.ref a, y] H (fun v H' => ∃ r, v = .bl r ∧ Q (.bl (if neg then !r else r)) H') E
theorem oth_type {pins : List (Addr × Obj)} {σ : L2.St} {H : Hp} {s : Shared} {y : V} {u : Value} (I : Inv X pins σ H s) (ry : RelV y u) (c : EqC X.K C f) (o : Oth H C y) :
    ∃ tb, PySem.W.Looks (model X.prog X.w) s.heap (typeOf u) tb ∧ PySem.W.notFirst X.K C tb = true := by
  cases o with
  | @ins a dx fs h =>
    obtain rfl : u = Value.ref a := ry
    obtain ⟨mA, O, rr, _, _, _⟩ := ins_get I.hok h
    obtain ⟨od, J, hl⟩ := O.look
    exact ⟨_, J.type, by unfold PySem.W.notFirst; simp⟩
  | int i =>
    obtain ⟨t, rfl⟩ := ry
    exact ⟨.type "int", .now, by unfold PySem.W.notFirst; rw [c.ni]; simp⟩
  | @tup a xs h =>
    obtain rfl : u = Value.ref a := ry
    obtain ⟨_, _, _, ob, h1, h2, _⟩ := (show ObjOk X.prog X.w H s.heap a (.tup xs) from I.hok a _ h)
    exact ⟨.type "tuple", h2 ▸ (PySem.W.Looks.ld h1).andThen .now, by unfold PySem.W.notFirst; rw [c.nt]; simp⟩
theorem op_eq_own (c : EqC X.K C f) (F : FnOk X.prog X.w X.K X.mg X.base CX k f fd ps sp) (hr : Room k X.A) (hb : Binds X.K fd ps []) (hx : Passes CX X E) : OpR X (compareOp .Eq) (rEqO C sp E false) := by
  intro pins s σ H x y v u Q I rx ry ⟨a, dx, fs, ex, ha, o, q⟩
  subst ex
  obtain rfl : v = Value.ref a := rx
  obtain ⟨mA, O, rr, _, _, _⟩ := ins_get I.hok ha
  obtain ⟨od, J, hl⟩ := O.look
  obtain ⟨m0, hF⟩ := I.fr
  obtain ⟨tb, lk, nf⟩ := oth_type I ry c o
  show wpAny _ _ (richCompare .Eq (.ref a) u) _ _ _
  refine cmp_K hr.units0 hF I.ok.mod.kin J lk nf c.eq c.fn (thn (run_sub F ⟨hr, rfl⟩ hb hx I (.cons (relR a) (.cons ry .nil)) q) fun r s' ⟨z, H', I', rz, b, ez, q'⟩ => ?_)
  subst ez
  obtain rfl : r = Value.bool b := rz
  exact ⟨_, H', I', relB b, q'⟩
theorem op_ne_own (c : EqC X.K C f) (F : FnOk X.prog X.w X.K X.mg X.base CX k f fd ps sp) (hr : Room (k + 1) X.A) (hb : Binds X.K fd ps []) (hx : Passes CX X E) : OpR X (compareOp .NotEq) (rEqO C sp E true) := by
  intro pins s σ H x y v u Q I rx ry ⟨a, dx, fs, ex, ha, o, q⟩
  subst ex
  obtain rfl : v = Value.ref a := rx
  obtain ⟨mA, O, rr, _, _, _⟩ := ins_get I.hok ha
  obtain ⟨od, J, hl⟩ := O.look
  obtain ⟨m0, hF⟩ := I.fr
  obtain ⟨tb, lk, nf⟩ := oth_type I ry c o
  show wpAny _ _ (richCompare .NotEq (.ref a) u) _ _ _
  refine ne_K (Room.units0 hr.in1) hr.units0 hF I.ok.mod.kin J lk nf c (thn (run_sub F (Sub.in1 ⟨hr, rfl⟩) hb hx I (.cons (relR a) (.cons ry .nil)) q) fun r s' ⟨z, H', I', rz, b, ez, q'⟩ => ?_)
  subst ez
  exact ⟨b, rz, _, H', I', relB (!b), q'⟩
end
end Tw

set_option Elab.async false
set_option linter.all false
set_option maxRecDepth 100000
set_option maxHeartbeats 4000000
namespace Tw
open PySem PySem.Spec PyProof.Rows L2
/-! enumerate(t), t a tuple -/
def enO (s : Shared) : Obj := { cls := .type "enumerate", data := .fields #[.none, .bool false, .ref s.heap.objs.size, rawInt 0, .none, .none] }
theorem enum_newT (t : Addr) (items : Array Value) :
    Meets (Builtin.«enumerate.__new__» ⟨[.type "enumerate", .ref t], []⟩) (fun _ R s => s.heap.IsTuple t items ∧
      R (.ok (.ret (.ref (s.heap.push (itTup t 0)).objs.size))) { s with heap := (s.heap.push (itTup t 0)).push (enO s) }) :=
  .of_wp fun prog w A R s h => by
    obtain ⟨hp, g, d, tk, os⟩ := s
    obtain ⟨h1, h⟩ := h
    have hsub := sub_enumerate
    have q1 : ∀ {A' : Around} {E : Value → Shared → Prop} {Q : Value → Shared → Prop}, Q (.ref hp.objs.size) ⟨hp.push (itTup t 0), g, d, tk, os⟩ → wpAny (model prog w) A' (pyIter (.ref t)) Q E ⟨hp, g, d, tk, os⟩ :=
      fun q => wpAny_pyIter_tuple (s := ⟨hp, g, d, tk, os⟩) h1 q
    wp_walk using q1
    refine wpAny_stack_any fun st => wpAny_pure ?_
    split
    · rename_i c _ _ _ _ _
      cases (c == Value.type "enumerate")
      · wp_walk using q1
        exact ⟨_, rfl, h⟩
      · wp_walk using q1
        exact ⟨_, rfl, h⟩
    · wp_walk using q1
      exact ⟨_, rfl, h⟩
section
variable {prog : Program} {w : World} {A : Around} {E : Value → Shared → Prop} {s : Shared}
theorem call_enumT {t : Addr} {items : Array Value} {Q : Value → Shared → Prop} (hT : s.heap.IsTuple t items)
    (h : ∀ h', IsEnum h' (s.heap.objs.size + 1) s.heap.objs.size 0 .none → h'.IsTupleIter s.heap.objs.size t 0 → h'.objs.size = s.heap.objs.size + 2 →
      (∀ b o, s.heap.get? b = some o → h'.get? b = some o) → Q (.ref (s.heap.objs.size + 1)) { s with heap := h' }) :
    wpAny (model prog w) A (call (.type "enumerate") [.ref t]) Q E s := by
  refine callType_new F.called_enumerate (by decide) (F.typeCall_enumerate_1 _) (F.newCall_enumerate_1 _) (fun obj => F.args_object_init_2 obj _) F.entry_enumerate_new (enum_newT t items) ⟨hT, ?_⟩
  have hz : (s.heap.push (itTup t 0)).objs.size = s.heap.objs.size + 1 := Heap.size_push ..
  show _ ∧ _
  rw [hz]
  have he : IsEnum ((s.heap.push (itTup t 0)).push (enO s)) (s.heap.objs.size + 1) s.heap.objs.size 0 .none := by
    have q := Heap.get?_push_size (s.heap.push (itTup t 0)) (o := enO s) rfl
    rw [hz] at q
    exact q
  have hi : ((s.heap.push (itTup t 0)).push (enO s)).IsTupleIter s.heap.objs.size t 0 := ⟨_, Heap.get?_push_of_some _ (Heap.get?_push_size _ rfl), rfl, rfl⟩
  exact ⟨⟨_, he, rfl⟩, h _ he hi (by rw [Heap.size_push, hz]) fun b o x => Heap.get?_push_of_some _ (Heap.get?_push_of_some _ x)⟩
end
def IteT (K : PySem.W.Frag) (a : Addr) : It :=
  ⟨fun i H => ∃ (xs : List V) (x : V), SqT K H a xs ∧ xs[i]? = some x, fun i H v H' => ∃ T x, v = .ref T ∧ H T = Option.none ∧ H' = upd H T (.tup [.int (i : Nat), x]) ∧ ∀ xs, SqT K H a xs → xs[i]? = some x, fun i H => ∃ xs : List V, SqT K H a xs ∧ xs.length = i⟩
theorem turn_enumT {P : Program} {w : World} {K : PySem.W.Frag} {elts : List Expr} {kk : Nat} {tpos : Pos} (a e it : Addr) :
    Turn P w K (.Tuple elts kk tpos) (IteT K a) [e, it] e (fun i h => (∃ old, IsEnum h e it ((i : Nat) : Int) old) ∧ h.IsTupleIter it a i ∧ e ≠ it) where
  mem := by simp
  obj := fun i h st b hb => by
    obtain ⟨⟨old, he⟩, ⟨o, ho, hc, hd⟩, _⟩ := st
    rcases (show b = e ∨ b = it by simpa using hb) with rfl | rfl
    · exact ⟨_, he, fun v q => nomatch q⟩
    · exact ⟨o, ho, fun v q => by rw [hd] at q; cases q⟩
  keep := fun i h h' st k => let ⟨⟨old, he⟩, hi, hne⟩ := st; ⟨⟨old, k e (by simp) _ he⟩, hi.at fun o q => k it (by simp) o q, hne⟩
  item := by
    intro X hP hw hK hc i pins s σ H E I hf st hg
    subst hP hw hK
    obtain ⟨⟨old, he⟩, hit, hne⟩ := st
    obtain ⟨xs, x, hq, hx⟩ := hg
    obtain ⟨its, rv, p, hz⟩ := I.tuple hq
    have hil : i < xs.length := (List.getElem?_eq_some_iff.mp hx).1
    have hlen := rv.length
    have hel : e < s.heap.objs.size := Heap.lt_size he
    have hitl : it < s.heap.objs.size := by obtain ⟨_, q, _⟩ := hit; exact Heap.lt_size q
    have hae : e ≠ a := fun z => by
      obtain ⟨oo, h1, h2, _⟩ := p
      rw [← z, he] at h1
      cases h1
      injection h2 with q
      exact absurd q (by decide)
    have hia : it ≠ a := fun z => by
      obtain ⟨oo, h1, h2, _⟩ := p
      obtain ⟨o2, h3, h4, _⟩ := hit
      rw [← z, h3] at h1
      cases h1
      rw [h4] at h2
      injection h2 with q
      exact absurd q (by decide)
    have D := Draws.tuple (prog := X.prog) (w := X.w) (A := X.A.in1) (I.ok.hd hc) it a hia.symm its.toArray
    refine wpAny_pyNext_enum_itemD D he ⟨hit, p⟩ (by rw [List.size_toArray]; omega) hne (by simp [hne, hae]) fun u h' tk hu ho hst hT hsz hk => ?_
    obtain ⟨u2, hu2, ru⟩ := rv.get hx
    obtain rfl : u = u2 := by
      rw [List.getElem?_toArray] at hu
      exact Option.some.inj (hu.symm.trans hu2)
    refine ⟨_, rfl, wpAny_letOwnedTupleGo_enum (s := { s with heap := h', toks := tk + 1 }) ho fun h'' he' sb => ?_⟩
    have hT2 : h''.get? s.heap.objs.size = some { cls := .type "tuple", data := .seq #[.int i tk, u] } := (sb.2 _ (Nat.ne_of_gt hel)).trans hT
    have new : ObjOk X.prog X.w (upd H s.heap.objs.size (.tup [.int (i : Nat), x])) h'' s.heap.objs.size (.tup [.int (i : Nat), x]) :=
      ⟨by show 2 ≤ sizeLine; decide, [.int i tk, u], .cons ⟨_, rfl⟩ (.cons ru .nil), ⟨_, hT2, rfl, _, rfl⟩⟩
    have I1 : Inv X pins σ (upd H s.heap.objs.size (.tup [.int (i : Nat), x])) { s with heap := h'', toks := tk + 1 } :=
      I.turnedNew (ch := [e, it]) (fun b ob hb q => (sb.2 b (fun z => hb (by simp [z]))).trans (hk b ob (fun z => hb (by simp [z])) (fun z => hb (by simp [z])) q)) hf (Nat.le_refl _) new
    refine ⟨.ref s.heap.objs.size, _, I1, rfl, ⟨_, x, rfl, I.hok.fresh (Nat.le_refl _), rfl, fun ys hy => by rw [I.tuple_inj hy hq]; exact hx⟩, ⟨⟨u, ?_⟩, hst.1.at fun o q => (sb.2 it (Ne.symm hne)).trans q, hne⟩, fun b hb => ?_⟩
    · rw [show ((i + 1 : Nat) : Int) = (i : Int) + 1 by omega]
      exact he'
    · have hb' : b < s.heap.objs.size := by
        rcases (show b = e ∨ b = it by simpa using hb) with rfl | rfl
        · exact hel
        · exact hitl
      rw [upd_ne (Nat.ne_of_lt hb')]
      exact (hf b hb).1
  done := by
    intro X hP hw hK hc i pins s σ H E I hf st hg
    subst hP hw hK
    obtain ⟨⟨old, he⟩, hit, hne⟩ := st
    obtain ⟨xs, hq, hx⟩ := hg
    obtain ⟨its, rv, p, hz⟩ := I.tuple hq
    obtain ⟨f0, f1, f2, f3, f4, f5⟩ := hf it (by simp)
    have hlen := rv.length
    have hae : e ≠ a := fun z => by
      obtain ⟨oo, h1, h2, _⟩ := p
      rw [← z, he] at h1
      cases h1
      injection h2 with q
      exact absurd q (by decide)
    have hia : it ≠ a := fun z => by
      obtain ⟨oo, h1, h2, _⟩ := p
      obtain ⟨o2, h3, h4, _⟩ := hit
      rw [← z, h3] at h1
      cases h1
      rw [h4] at h2
      injection h2 with q
      exact absurd q (by decide)
    have D := Draws.tuple (prog := X.prog) (w := X.w) (A := X.A.in1) (I.ok.hd hc) it a hia.symm its.toArray
    have en : its.toArray.size = i := by rw [List.size_toArray]; omega
    refine wpAny_pyNext_enum_endD D he (by rw [en]; exact ⟨hit, p⟩) fun h' eb => ⟨rfl, I.turned (t' := s.toks) (fun b o hb q => eb b o hb q) f0 f1 f3 f4 f5⟩
  self := fun A i s Q E st h => let ⟨⟨_, he⟩, _⟩ := st; wpAny_pyIter_enum he h
theorem walk_enumT {K : PySem.W.Frag} {a : Addr} {xs : List V} : Walk (IteT K a) xs.length (fun H => SqT K H a xs) (YPair (fun i => some (.int (i : Nat))) (fun i => xs[i]?)) := by
  refine ⟨fun i _ hi q => ⟨xs, xs[i], q, by simp [hi]⟩, fun _ q => ⟨xs, q, rfl⟩, fun i H v H' _ q y => ?_⟩
  obtain ⟨T, x, h1, h2, h3, h4⟩ := y
  exact ⟨T, .int (i : Nat), x, h1, h2, h3, rfl, h4 xs q⟩
/-- enumerate of a list or of a tuple -/
def iEnS (K : PySem.W.Frag) (ta : TA) : TI := fun σ H R => ta σ H fun vs H1 => ∃ a xs, vs = [.ref a] ∧ ((SqL K H1 a xs ∧ R (Ite K a) H1) ∨ (SqT K H1 a xs ∧ R (IteT K a) H1))
theorem pi_enS {X : Cx} {e : Expr} {ta : TA} {p pos tpos : Pos} {elts : List Expr} {kk : Nat} (hg : Gl X "enumerate") (hm : X.mg "enumerate" = Option.none) (ha : PA X [e] ta) (hs : starEach [e] X.env = [(false, eval e X.env)] := by rfl) :
    PI X (.Tuple elts kk tpos) (.Call (.Name "enumerate" p) [e] [] pos) (iEnS X.K ta) := by
  refine ⟨fun pins s σ H R I h => ?_⟩
  refine Call_ (ld_blt I hg hm boot_enumerate (PyProof.Rows.callWith_type1 (thn (ha.run pos pins s σ H _ I h) fun us s1 ⟨vs, H1, I1, r1, a, xs, ex, q1⟩ => ?_) hs rfl))
  subst ex
  obtain ⟨u, rfl, ru⟩ := r1.one
  obtain rfl : u = Value.ref a := ru
  have fr : ∀ b ∈ [s1.heap.objs.size + 1, s1.heap.objs.size], FpOk X pins H1 b := fun b hb => by
    have hle : s1.heap.objs.size ≤ b := by
      rcases (show b = s1.heap.objs.size + 1 ∨ b = s1.heap.objs.size by simpa using hb) with z | z <;> omega
    exact I1.fpOk hle (I1.hok.fresh hle)
  rcases q1 with ⟨hq, q⟩ | ⟨hq, q⟩
  · obtain ⟨its, rv, p', hz⟩ := I1.list hq
    exact call_enumerate_list p'.isList fun h' he hit hsz hk => wpAny_pyIter_enum he ⟨_, _, _, _, H1, rfl, I1.kept (t' := s1.toks) hk, turn_enum a (s1.heap.objs.size + 1) s1.heap.objs.size, ⟨⟨.none, he⟩, hit, Nat.succ_ne_self _⟩, fr, q⟩
  · obtain ⟨its, rv, p', hz⟩ := I1.tuple hq
    exact call_enumT p' fun h' he hit hsz hk => wpAny_pyIter_enum he ⟨_, _, _, _, H1, rfl, I1.kept (t' := s1.toks) hk, turn_enumT a (s1.heap.objs.size + 1) s1.heap.objs.size, ⟨⟨.none, he⟩, hit, Nat.succ_ne_self _⟩, fr, q⟩
end Tw

set_option Elab.async false
set_option linter.all false
set_option maxRecDepth 100000
set_option maxHeartbeats 2000000
/-! own rules: min(xs, key=lambda x: ys[x]), ys a name of the def -/
namespace Cl
open PySem PySem.Spec PyProof.Rows L2 LamX
section
variable {prog : Program} {w : World} {A : Around} {E : Value → Shared → Prop} {s : Shared}
/-- what the lambda's scope must say -/
structure LSc (scope : Scope) (x y : Str) : Prop where
  kind : scope.kind = .function
  co : scope.isCoroutine = false
  gen : scope.isGenerator = false
  nocell : ∀ z ∈ scope.names, z.2 ≠ .cell
  px : scope.names.lookup x = some .local
  fy : scope.names.lookup y = some .free
/-- lambda x: y[x], called with an int -/
theorem lam_ix {f l c' ck : Addr} {q x y : Str} {params : Arguments} {p1 p2 p3 : Pos} {scope : Scope} {cl : List (Str × Addr)} {pm ctv u : Value} {vs : List Value} {i : Int} {t : Tok} {Q : Value → Shared → Prop}
    (S : LSc scope x y) (hd : A.depth < recursionLimit) (hf : s.heap.get? f = some (PySem.W.kla_obj "<lambda>" q params (.Subscript (.Name y p1) (.Name x p2) p3) scope cl pm c' ctv))
    (hbind : ∀ v : Value, bindArgs (PySem.W.kla_fn "<lambda>" q params (.Subscript (.Name y p1) (.Name x p2) p3) scope cl pm (.ref c') ctv) ⟨[v], []⟩ = pure [(x, v)])
    (hcode : ∃ (oc : Obj) (us : Array Value) (tk : Tok), s.heap.get? c' = some oc ∧ oc.data = .fields us ∧ us[1]? = some (.str q tk)) (hlim : s.heap.NoLimit)
    (hck : cl.lookup y = some ck) (hcell : s.heap.IsCell ck (some (.ref l))) (hl : s.heap.IsList l vs.toArray) (h0 : 0 ≤ i) (h1 : i < 2 ^ 63) (hi : vs[i.toNat]? = some u)
    (hdx : (x == ("__debug__" : Str)) = false) (hdy : (y == ("__debug__" : Str)) = false) (hcy : (y == ("__classdict__" : Str)) = false)
    (h : ∀ h' tk, s.toks ≤ tk → (∀ b o, s.heap.get? b = some o → h'.get? b = some o) → Q u { s with heap := h', toks := tk }) : wpAny (model prog w) A (call (.ref f) [.int i t]) Q E s := by
  obtain ⟨oc, us, tq, hoc, hdc, hvc⟩ := hcode
  refine wpAny_call (PySem.W.kla_callFunE hd hf rfl S.co S.gen rfl ⟨c', oc, us, tq, rfl, hoc, hdc, hvc⟩ ?_)
  rw [hbind]
  refine wpAny_pure (wpAny_newFunctionEnv S.nocell (fun z hz => by rw [List.mem_singleton.mp hz]; exact S.px) (fun h₁ hns hsb => ⟨hlim.fresh _ hsb, ?_⟩) S.kind)
  have kp : ∀ b o, s.heap.get? b = some o → h₁.get? b = some o := fun b o e => hsb.extBut b o (Nat.ne_of_lt (Heap.lt_size e)) (Heap.get?_push_of_some _ e)
  refine PySem.W.kla_codeExpr ?_
  refine wpAny_Subscript_Name list_getitem_lookup ?_
  refine wpAny_Name (wpAny_loadName_free S.kind S.fy hck (hcell.keeps kp) ?_ hcy) hdy
  refine wpAny_Name (wpAny_loadName_local S.kind S.px hns (v := .int i t) ?_ ?_) hdx
  · simp [List.lookup]
  · have hl' : h₁.IsList l vs.toArray := hl.at fun o e => kp _ _ e
    refine ⟨hl'.typeIs, wpAny_getItem_list hl' h0 h1 (by simpa using hi) ?_⟩
    exact h h₁ _ (by show s.toks ≤ s.toks + _; omega) kp
/-- what a lambda x: y[x] is, and what it reads -/
structure LamAt (h : Heap) (f : Addr) (x y : Str) (q : Str) (params : Arguments) (p1 p2 p3 : Pos) (scope : Scope) (cl : List (Str × Addr)) (pm ctv : Value) (c' ck l : Addr) (us : List Value) : Prop where
  fn : h.get? f = some (PySem.W.kla_obj "<lambda>" q params (.Subscript (.Name y p1) (.Name x p2) p3) scope cl pm c' ctv)
  code : ∃ (oc : Obj) (us : Array Value) (tk : Tok), h.get? c' = some oc ∧ oc.data = .fields us ∧ us[1]? = some (.str q tk)
  lim : h.NoLimit
  hck : cl.lookup y = some ck
  cell : h.IsCell ck (some (.ref l))
  lst : h.IsList l us.toArray
theorem LamAt.keeps {h h' : Heap} {f : Addr} {x y : Str} {q : Str} {params : Arguments} {p1 p2 p3 : Pos} {scope : Scope} {cl : List (Str × Addr)} {pm ctv : Value} {c' ck l : Addr} {us : List Value}
    (L : LamAt h f x y q params p1 p2 p3 scope cl pm ctv c' ck l us) (k : ∀ b o, h.get? b = some o → h'.get? b = some o) : LamAt h' f x y q params p1 p2 p3 scope cl pm ctv c' ck l us :=
  ⟨k _ _ L.fn, let ⟨oc, us, tk, a, b, c⟩ := L.code; ⟨oc, us, tk, k _ _ a, b, c⟩, L.lim.keeps k, L.hck, L.cell.keeps k, L.lst.at fun o e => k _ _ e⟩
theorem min_lam {f a l c' ck : Addr} {q x y : Str} {params : Arguments} {p1 p2 p3 : Pos} {scope : Scope} {cl : List (Str × Addr)} {pm ctv : Value} {cs us : List Value} {ns : Nat → Int} {kf : Nat → Int} {Q : Value → Shared → Prop}
    (hh : A.handled = none) (S : LSc scope x y) (hd : A.depth < recursionLimit) (L : LamAt s.heap f x y q params p1 p2 p3 scope cl pm ctv c' ck l us)
    (hbind : ∀ v : Value, bindArgs (PySem.W.kla_fn "<lambda>" q params (.Subscript (.Name y p1) (.Name x p2) p3) scope cl pm (.ref c') ctv) ⟨[v], []⟩ = pure [(x, v)])
    (hdx : (x == ("__debug__" : Str)) = false) (hdy : (y == ("__debug__" : Str)) = false) (hcy : (y == ("__classdict__" : Str)) = false)
    (ht : s.heap.IsTuple a cs.toArray) (hc : ∀ i, i < cs.length → ∃ t, cs[i]? = some (.int (ns i) t)) (hne : 0 < cs.length)
    (hk : ∀ i, i < cs.length → 0 ≤ ns i ∧ ns i < 2 ^ 63 ∧ ∃ t, us[(ns i).toNat]? = some (.int (kf i) t))
    (h : ∀ v h' tk, cs[argBest (fun i j => decide (kf i < kf j)) (cs.length - 1)]? = some v → (∀ b o, s.heap.get? b = some o → h'.get? b = some o) → Q v { s with heap := h', toks := tk }) :
    wpAny (model prog w) A (call (.builtin "min") [.ref a] [(Str.ofString "key", .ref f)]) Q E s := by
  have hd1 : A.in1.depth < recursionLimit := hd
  refine call_min_walkK (PySem.W.iter_tupleW (A := A.in1) hh ht fun s₂ e2 W st hfp hfr kp2 => ?_)
  have sz2 : s.heap.objs.size < s₂.heap.objs.size := hfp _ List.mem_cons_self
  have old : ∀ {s' : Shared}, Moved [s₂.heap.objs.size, s.heap.objs.size] (fun a b => b = a) s₂ s' → ∀ b o, s.heap.get? b = some o → s'.heap.get? b = some o := fun {s'} m b o e => by
    have lt := Heap.lt_size e
    refine m.heap b o (fun hm => ?_) (kp2 b o e)
    rcases List.mem_cons.mp hm with z | hm
    · rw [z] at lt
      exact Nat.lt_irrefl _ (Nat.lt_trans lt sz2)
    · rw [List.mem_singleton.mp hm] at lt
      exact Nat.lt_irrefl _ lt
  have szc : cs.toArray.size = cs.length := by simp
  refine ⟨s.heap.objs.size, [s.heap.objs.size, a], [s.heap.objs.size], (fun a b => b = a), cs.toArray.size, _, _, fun s' => Moved [s₂.heap.objs.size, s.heap.objs.size] (fun a b => b = a) s₂ s', fun i k _ => ∃ t, k = .int (kf i) t, fun i j => decide (kf i < kf j), rfl, W, st, hfp, by rw [szc]; exact hne, ⟨?_, ?_, ?_, ?_⟩, Moved.refl fun _ => rfl, ?_⟩
  · exact fun s1 s' J m => J.trans (fun _ _ _ h1 h2 => h2.trans h1) m
  · exact fun i k s1 s' v _ => v
  · intro i v s1 o Q' E' hi hP J stI hS cont
    rw [szc] at hi
    obtain ⟨t, ec⟩ := hc i hi
    have ev : v = .int (ns i) t := by
      have hP' : cs[i]? = some v := by simpa using hP
      rw [ec] at hP'
      exact (Option.some.inj hP').symm
    subst ev
    obtain ⟨h0, h1, tk, eu⟩ := hk i hi
    have L1 := L.keeps (old J)
    refine lam_ix S hd1 L1.fn hbind L1.code L1.lim L1.hck L1.cell L1.lst h0 h1 eu hdx hdy hcy fun h' tk' hle kp => ?_
    exact cont _ _ (J.then_heap hle fun b o _ e => kp b o e) (W.frame _ s1 h' tk' stI hle fun b _ o e => kp b o e) (kp _ _ hS) ⟨_, rfl⟩ fun j k' z => z
  · intro i j ki kj s1 Q' E' J vi vj q
    exact CmpOf.ints_lt (prog := prog) (w := w) (A := A.in1) (P := fun i v => ∃ t, v = .int (kf i) t) kf (fun i v h => h) i j ki kj s1 Q' E' vi vj q
  · intro v s' hP J
    rw [szc] at hP
    have hP' : cs[argBest (fun i j => decide (kf i < kf j)) (cs.length - 1)]? = some v := by simpa using hP
    have e : s' = { s with heap := s'.heap, toks := s'.toks } := by
      obtain ⟨hp, g, d, tk, os⟩ := s'
      subst e2
      have h1 : g = s.gens := J.gens
      have h2 : d = s.drawn := J.drawn
      have h3 : os = s.os := J.os
      subst h1 h2 h3
      rfl
    rw [e]
    exact h v s'.heap s'.toks hP' (old J)
end
/-- the first of the least -/
def FirstLeast (kf : Nat → Int) (n j : Nat) : Prop := j < n ∧ (∀ i, i < n → kf j ≤ kf i) ∧ ∀ i, i < j → kf j < kf i
theorem best_is (kf : Nat → Int) : ∀ n, FirstLeast kf (n + 1) (argBest (fun i j => decide (kf i < kf j)) n)
  | 0 => ⟨Nat.zero_lt_one, fun i h => by rw [Nat.lt_one_iff.mp h]; exact Int.le_refl _, fun i h => nomatch h⟩
  | n + 1 => by
    obtain ⟨a, b, c⟩ := best_is kf n
    show FirstLeast kf (n + 2) (if decide (kf (n + 1) < kf (argBest (fun i j => decide (kf i < kf j)) n)) = true then n + 1 else argBest (fun i j => decide (kf i < kf j)) n)
    by_cases h : kf (n + 1) < kf (argBest (fun i j => decide (kf i < kf j)) n)
    · rw [if_pos (decide_eq_true h)]
      refine ⟨by omega, fun i hi => ?_, fun i hi => ?_⟩
      · by_cases e : i = n + 1
        · rw [e]
          exact Int.le_refl _
        · have := b i (by omega)
          omega
      · have := b i (by omega)
        omega
    · rw [if_neg (fun z => h (of_decide_eq_true z))]
      refine ⟨by omega, fun i hi => ?_, c⟩
      by_cases e : i = n + 1
      · rw [e]
        omega
      · exact b i (by omega)
theorem first_one {kf : Nat → Int} {n i j : Nat} (a : FirstLeast kf n i) (b : FirstLeast kf n j) : i = j := by
  rcases Nat.lt_trichotomy i j with h | h | h
  · have h1 := b.2.2 i h
    have h2 := a.2.1 j b.1
    omega
  · exact h
  · have h1 := a.2.2 j h
    have h2 := b.2.1 i a.1
    omega
/-- the item of ns whose key in ks is the least, the first such one -/
def LeastAt (ks ns : List Int) (m : Int) : Prop := ∃ j, FirstLeast (fun i => ks.getD (ns.getD i 0).toNat 0) ns.length j ∧ m = ns.getD j 0
theorem _root_.LamX.ExtN.rd {H H' : Hp} (e : ExtN H H') {a : Addr} {u : HO} (n : ∀ ps, u ≠ .tbl ps) (h : Rd H a u) : Rd H' a u := by
  rcases h with h | ⟨o, h⟩
  · exact .inl (e _ _ h n)
  · exact .inr ⟨o, e _ _ h fun ps z => nomatch z⟩
theorem _root_.LamX.ExtN.sqL {K : PySem.W.Frag} {H H' : Hp} (e : ExtN H H') {a : Addr} {xs : List V} (h : SqL K H a xs) : SqL K H' a xs := h.elim (fun h => .inl (e.rd (fun ps z => nomatch z) h)) .inr
theorem _root_.LamX.ExtN.sqT {K : PySem.W.Frag} {H H' : Hp} (e : ExtN H H') {a : Addr} {xs : List V} (h : SqT K H a xs) : SqT K H' a xs := h.elim (fun h => .inl (e.rd (fun ps z => nomatch z) h)) .inr
section
variable {X : Cx}
def tMinLam (K : PySem.W.Frag) (T : List (Addr × Str)) (j : Nat) (te : TE) : TE := fun σ H Q => te σ H fun v H1 => ∃ (a l : Addr) (ns ks : List Int), v = .ref a ∧ SqT K H1 a (ns.map V.int) ∧ σ[j]? = some (some (.ref l)) ∧ SqL K H1 l (ks.map V.int) ∧ 0 < ns.length ∧ (∀ n ∈ ns, 0 ≤ n ∧ n < ks.length) ∧
  Tabs T H1 ∧ ∀ (m : Int) (H2 : Hp), ExtN H1 H2 → Tabs T H2 → LeastAt ks ns m → Q (.int m) H2
/-- min(e, key=lambda x: y[x]), y a name of the def that it shares with the lambda -/
theorem pe_minlam {T : List (Addr × Str)} {c P : Addr} {p p1 p2 p3 lpos kpos pos : Pos} {e : Expr} {te : TE} {x y : Str} {j : Nat} {params : Arguments} {scope : Scope}
    (hg : Gl X "min") (hm : X.mg "min" = none) (he : PE X e te) (hd : X.A.depth < recursionLimit) (hh : X.A.handled = none) (TB : TabB X.base X.mg c P) (hcode : X.env.code = .ref c) (hmT : (P, X.env.qual ++ "<lambda>") ∈ T)
    (hu : ∀ q ∈ T, q.1 = P → q.2 = X.env.qual ++ "<lambda>") (S : LSc scope x y) (hfy : X.env.scope.names.lookup y = some .cell) (hfr : ∀ z ∈ scope.names, z.2 = .free → z.1 = y) (hN : X.N[j]? = some y) (hdef : defaultsOf params X.env = ([], []))
    (hbind : ∀ (q : Str) (cl : List (Str × Addr)) (pm cv ctv v : Value), bindArgs (PySem.W.kla_fn "<lambda>" q params (.Subscript (.Name y p1) (.Name x p2) p3) scope cl pm cv ctv) ⟨[v], []⟩ = pure [(x, v)])
    (hs : starEach [e] X.env = (false, eval e X.env) :: starEach [] X.env := by rfl)
    (hdx : (x == ("__debug__" : Str)) = false := by decide) (hdy : (y == ("__debug__" : Str)) = false := by decide) (hcy : (y == ("__classdict__" : Str)) = false := by decide) :
    PE X (.Call (.Name "min" p) [e] [⟨some "key", .Lambda params (.Subscript (.Name y p1) (.Name x p2) p3) scope lpos, kpos⟩] pos) (tMinLam X.K T j te) := by
  refine ⟨fun pins s σ H Q I h => ?_⟩
  have hfree : ∀ z ∈ scope.names, z.2 = .free → ∃ c, X.env.cells.lookup z.1 = some c := fun z hz e => I.ok.has _ (.inl (by rw [hfr z hz e]; exact hfy))
  refine wpAny_Call_Name_kw (ld_blt I hg hm (u := .builtin "min") (by decide +kernel) ?_)
  refine PyProof.Rows.callWith_kw ?_ (by rw [hs]; rfl) (by rw [hs]; rfl) (by rfl) (by rfl)
  rw [hs]
  show wpAny _ _ (spliced ((false, eval e X.env) :: backTo pos (starEach [] X.env))) _ _ s
  refine Calls.spliced_cons (thn (he.run pins s σ H _ I h) fun u s1 ⟨v, H1, I1, r1, a, l, ns, ks, ev, ht, hσ, hl, hne, hin, hT, q⟩ => Calls.spliced_nil ?_)
  subst ev
  obtain rfl : u = Value.ref a := r1
  show wpAny _ _ (evalAll ((do let v ← eval (.Lambda params (.Subscript (.Name y p1) (.Name x p2) p3) scope lpos) X.env; standAt pos; pure v) :: [])) _ _ s1
  refine wpAny_evalAll_cons (wpAny_bind (lam_make2 I1 TB hcode hmT hu hT hdef hfree fun f c' pm ctv H2 s2 I2 eN T2 hf hfn hff hco => wpAny_bind (wpAny_standAt (wpAny_pure (wpAny_evalAll_nil ?_)))))
  show wpAny _ _ (call (.builtin "min") [.ref a] [(Str.ofString "key", .ref f)]) _ _ s2
  obtain ⟨cs, rc, tc, _⟩ := I2.tuple (eN.sqT ht)
  obtain ⟨us, ru, pl, hz2⟩ := I2.list (eN.sqL hl)
  obtain ⟨m, _, look⟩ := I2.loc
  obtain ⟨u0, r0, lk⟩ := look j y _ hN hσ (.inr (.inl hfy))
  obtain rfl : u0 = Value.ref l := r0
  have cellAt : ∃ ck, X.env.cells.lookup y = some ck ∧ s2.heap.IsCell ck (some (.ref l)) := by
    rcases lk with ⟨k, _⟩ | ⟨_, ck, e1, e2⟩
    · rw [show X.env.kindOf y = some .cell from hfy] at k
      cases k
    · exact ⟨ck, e1, e2⟩
  obtain ⟨ck, eck, hcell⟩ := cellAt
  obtain ⟨⟨oc, vs, tk, o1, o2, o3⟩, _, _⟩ := I2.hok c' _ hco
  have lc : cs.length = ns.length := by rw [← rc.length, List.length_map]
  have lu : us.length = ks.length := by rw [← ru.length, List.length_map]
  have nsAt : ∀ i, i < ns.length → ∃ t, cs[i]? = some (.int (ns.getD i 0) t) := fun i hi => by
    obtain ⟨z, ez, rz⟩ := rc.get (i := i) (x := V.int (ns.getD i 0)) (by rw [List.getElem?_map, List.getD_eq_getElem?_getD, List.getElem?_eq_getElem hi]; rfl)
    obtain ⟨t, rfl⟩ := rz
    exact ⟨t, ez⟩
  refine min_lam (ns := fun i => ns.getD i 0) (kf := fun i => ks.getD (ns.getD i 0).toNat 0) hh S hd ⟨hf, ⟨oc, vs, tk, o1, o2, o3⟩, I2.nolimit, NdefX.clo_has hfree (PySem.mem_of_lookup S.fy) eck, hcell, pl.isList⟩ (fun v => hbind _ _ _ _ _ v) hdx hdy hcy tc (fun i hi => nsAt i (by omega)) (by omega)
    (fun i hi => ?_) fun v h' tk2 hv kp => ?_
  · have hi' : i < ns.length := by omega
    have hmem : ns.getD i 0 ∈ ns := by rw [List.getD_eq_getElem?_getD, List.getElem?_eq_getElem hi']; exact List.getElem_mem hi'
    obtain ⟨b0, b1⟩ := hin _ hmem
    have hs63 := line63
    rw [List.length_map] at hz2
    have hk' : (ns.getD i 0).toNat < ks.length := by omega
    obtain ⟨z, ez, rz⟩ := ru.get (i := (ns.getD i 0).toNat) (x := V.int (ks.getD (ns.getD i 0).toNat 0)) (by rw [List.getElem?_map, List.getD_eq_getElem?_getD (l := ks), List.getElem?_eq_getElem hk']; rfl)
    obtain ⟨t, rfl⟩ := rz
    exact ⟨b0, by omega, t, ez⟩
  · obtain ⟨n, en⟩ : ∃ n, ns.length = n + 1 := ⟨ns.length - 1, by omega⟩
    have fl := best_is (fun i => ks.getD (ns.getD i 0).toNat 0) n
    rw [← en] at fl
    rw [lc, show ns.length - 1 = n by omega] at hv
    obtain ⟨t, et⟩ := nsAt _ fl.1
    rw [et] at hv
    cases hv
    exact ⟨.int _, H2, I2.kept kp, ⟨t, rfl⟩, q _ H2 eN T2 ⟨_, fl, rfl⟩⟩
end
end Cl

set_option Elab.async false
set_option linter.all false
set_option maxRecDepth 100000
set_option maxHeartbeats 2000000
/-! own rule: list(o), o an instance with an __iter__ over its tuple and a __len__ -/
namespace Tw
open PySem PySem.Spec PyProof.Rows L2
def rListO (K : PySem.W.Frag) (C : Addr) (fld : Str) (sp : Sp) (E : XK) : List V → Hp → VK → Prop := fun xs H Q => ∃ (a dx : Addr) (fs : List (Str × V)) (t : Addr) (zs : List V), xs = [.ref a] ∧ H a = some (.ins C dx fs) ∧ fs.lookup fld = some (.ref t) ∧ SqT K H t zs ∧ zs.length ≤ 900 ∧
  sp [.ref a] H (fun v H' => ∃ n : Nat, v = .int n ∧ n < 1000 ∧ H' = H) E ∧ ∀ q, H q = none → Q (.ref q) (upd H q (.lst zs))
theorem ty_ne {a b : String} (h : Value.type a = Value.type b) (n : decide (a = b) = false) : False := by
  injection h with h
  exact of_decide_eq_false n h
theorem if_yes {α : Type} {M : Model} {A : Around} {E : Value → Shared → Prop} {s : Shared} {c : Bool} {a b : Sem α} {Q : α → Shared → Prop} (hc : c = true) (h : wpAny M A a Q E s) : wpAny M A (if c = true then a else b) Q E s := by
  rw [hc, if_pos rfl]
  exact h
section
variable {X : Cx} {k : Nat} {f : Addr} {fd : FuncData} {ps : List Str} {sp : Sp} {A1 : Around} {pins : List (Addr × Obj)} {σ : L2.St} {H : Hp} {s : Shared} {Q : VK}
/-- a def that raises nothing, called within a built-in -/
theorem run_sub0 {us : List Value} {vs : List V} {R : Value → Shared → Prop} (F : FnOk X.prog X.w X.K X.mg X.base CX0 k f fd ps sp) (sb : Sub X k A1) (hb : L2.Binds X.K fd ps []) (I : Inv X pins σ H s) (r : Vals vs us) (h : sp vs H Q E0) :
    wpAny (model X.prog X.w) A1 (call (.ref f) us) (EP X pins σ Q) R s := by
  have hl : us.length = ps.length := by rw [← r.length]; exact F.len _ _ _ _ h
  have hb1 : BindsTo s fd ⟨us, []⟩ (ps.zip us) := by
    have z := hb s us I.kIn (by rw [List.append_nil]; exact hl)
    rw [List.append_nil] at z
    exact z
  refine wpAny_call (codeAny_mono (F.run A1 X.stack s H ⟨us, []⟩ us vs Q E0 sb.room (Sub.env0 sb I) hb1 r h) fun z s' hq => ?_)
  match z, hq with
  | .error e, hq => exact False.elim hq
  | .ok (.ret u), hq => exact I.after hq
  | .ok .next, hq => exact False.elim hq
  | .ok .brk, hq => exact False.elim hq
  | .ok .cont, hq => exact False.elim hq
end
section
variable {X : Cx} {kI k : Nat} {fi fl C : Addr} {fdI fdL : FuncData} {psL : List Str} {spL : Sp} {fld : Str}
theorem call_listO (hdI : Dn X.K C "__iter__" fi) (FI : FnIt X.prog X.w X.K X.mg X.base k fi fdI ["self"] (spIter X.K C fld)) (bI : L2.Binds X.K fdI ["self"] [])
    (hdL : Dn X.K C "__len__" fl) (FL : FnOk X.prog X.w X.K X.mg X.base CX0 k fl fdL psL spL) (bL : L2.Binds X.K fdL psL []) (hr : Room (k + 3) X.A) : CallR X (.type "list") (rListO X.K C fld spL E0) := by
  intro pins s σ H xs us Q I rv h
  obtain ⟨a, dx, fs, t, zs, rfl, ha, hf, ht, hz, hlen, q⟩ := h
  obtain ⟨u, rfl, ru⟩ := rv.one
  cases ru
  have sb1 : Sub X (k + 1) X.A.in1.in1 := Sub.in1 (Sub.in1 (⟨hr, rfl⟩ : Sub X (k + 3) X.A))
  have sb : Sub X k X.A.in1.in1 := sb1.mono (Nat.le_succ k)
  refine callType_codes (Q₁ := fun obj s₁ => obj = .ref s.heap.objs.size ∧ s₁ = { s with heap := s.heap.push { cls := .type "list", data := .seq #[] } }) PySem.F.called_list (PySem.F.typeCall_list_1 _) PySem.F.entry_list_init
    (code_list_new _ ⟨rfl, rfl⟩) fun obj s₁ h₁ => ?_
  obtain ⟨rfl, rfl⟩ := h₁
  have hS : (s.heap.push { cls := .type "list", data := .seq #[] }).get? s.heap.objs.size = some { cls := .type "list", data := .seq #[] } := Heap.get?_push_size _ rfl
  refine ⟨⟨_, hS, rfl⟩, PySem.F.args_list_init_2 _ _, ?_⟩
  have nS : H s.heap.objs.size = none := I.hok.fresh (Nat.le_refl _)
  have fS : FpOk X pins H s.heap.objs.size := I.fpOk (Nat.le_refl _) nS
  have I1 : Inv X pins σ H { s with heap := s.heap.push { cls := .type "list", data := .seq #[] } } := I.kept (t' := s.toks) fun b u e => Heap.get?_push_of_some _ e
  show wpAny _ _ (do let old ← Builtin.List.listItems (.ref s.heap.objs.size); Builtin.List.listUpdate (.ref s.heap.objs.size) (fun _ => #[]); letGo old.toList.reverse; Builtin.List.listExtendWith (.ref s.heap.objs.size) (.ref a) .none) _ _ _
  refine wpAny_bind ?_
  unfold Builtin.List.listItems
  refine wpAny_bind (wpAny_seqItems hS rfl (wpAny_pure ?_))
  show wpAny _ _ (updateSeq s.heap.objs.size (fun _ => #[]) >>= fun _ => letGo (#[] : Array Value).toList.reverse >>= fun _ => Builtin.List.listExtendWith (.ref s.heap.objs.size) (.ref a) .none) _ _ _
  refine wpAny_bind (wpAny_updateSeq hS rfl ?_)
  have hS2 := Heap.get?_update_self (h := s.heap.push { cls := .type "list", data := .seq #[] }) (f := Obj.mapSeq fun _ => #[]) hS rfl
  have I2 := I1.turnedL (h' := (s.heap.push { cls := .type "list", data := .seq #[] }).update s.heap.objs.size (Obj.mapSeq fun _ => #[])) (t' := s.toks) (ch := [s.heap.objs.size]) (fun b o hb e => (Heap.get?_update_other _ _ (fun z => hb (by simp [z]))).trans e) (fun b hb => by rw [List.mem_singleton.mp hb]; exact fS)
  refine wpAny_bind (wpAny_letGo ?_)
  generalize hSa : s.heap.objs.size = S at *
  generalize hh2 : (s.heap.push { cls := .type "list", data := .seq #[] }).update S (Obj.mapSeq fun _ => #[]) = h2 at *
  have szS : S < h2.objs.size := Heap.lt_size hS2
  obtain ⟨mA, O, rr, _, _, _⟩ := ins_get I2.hok ha
  obtain ⟨od, J, hl⟩ := O.look
  obtain ⟨m0, hF⟩ := I2.fr
  have hne : S ≠ a := fun z => by rw [← z] at ha; rw [nS] at ha; cases ha
  have h1 : Builtin.List.listSameRef (.ref S) (.ref a) = false := by simp [Builtin.List.listSameRef, hne]
  unfold Builtin.List.listExtendWith
  refine wpAny_bind (J.type.here ?_)
  have n2 : (Value.ref C == Value.type "list") = false := rfl
  have n3 : (Value.ref C == Value.type "tuple") = false := rfl
  simp only [h1, n2, n3, Bool.or_false, Bool.false_eq_true, if_false]
  have I2p := I2.pinned (fp := [S]) (fun b hb => by rw [List.mem_singleton.mp hb]; exact fS) (fun b hb => by rw [List.mem_singleton.mp hb]; exact ⟨_, hS2, fun v z => nomatch z⟩)
  refine wpAny_bind (PySem.W.owit_iter hF I2.ok.mod.kin J hdI.at_ hdI.fn (thn (run_iter FI sb bI I2p ha hf ht) fun r s3 ⟨it, er, hn, h0, I3⟩ => ?_))
  subst er
  have e2 : upd H it (ItT t it 0) it = some (ItT t it 0) := upd_same
  have g : s3.heap.get? it = some (itTup t 0) := (I3.hok it _ e2).1
  have hS3 := (I3.pin (S, _) (List.mem_append_right _ (List.mem_append_right _ (mem_pinsAt (List.mem_singleton.mpr rfl) hS2)))).1
  have hTy : s3.TypeIs (.ref it) "tuple_iterator" := ⟨_, g, rfl⟩
  have fIt := ItX.inv_fp I3 e2 (Nat.le_trans I2.sz hn)
  have I4 := ItX.inv_drop I3 e2
  rw [ItX.dropH_upd h0] at I4 fIt
  unfold PySem.W.OwitIt
  refine wpAny_specialOf (name := Str.ofString "__next__") hTy PySem.F.slot_tuple_iterator_next.lookup ?_
  have I5 := I4.pinned (fp := [it]) (fun b hb => by rw [List.mem_singleton.mp hb]; exact fIt) (fun b hb => by rw [List.mem_singleton.mp hb]; exact ⟨_, g, fun v z => nomatch z⟩)
  show wpAny _ X.A.in1.in1 (holding [.ref it] (Builtin.List.listLengthHint (.ref a)) >>= _) _ _ s3
  obtain ⟨mA5, O5, rr5, _, _, _⟩ := ins_get I5.hok ha
  obtain ⟨od5, J5, hl5⟩ := O5.look
  obtain ⟨m5, hF5⟩ := I5.fr
  refine wpAny_bind (wpAny_holding ?_)
  have lenOk : ∀ {R : Value → Shared → Prop}, wpAny (model X.prog X.w) X.A.in1.in1 (call (.builtin "len") [.ref a]) (fun r s' => ∃ (n : Nat) (tk : Tok), r = .int n tk ∧ n < 1000 ∧ Inv X (pins ++ pinsAt [S] h2 ++ pinsAt [it] s3.heap) σ H s') R s3 := by
    intro R
    refine PySem.W.len_K hF5 I5.ok.mod.kin J5 hdL.at_ hdL.fn (thn (run_sub0 FL (Sub.in1 (Sub.mono sb1 (Nat.le_refl _))) bL I5 (.cons (relR a) .nil) hlen) fun r s' ⟨z, H', I', rz, n, ez, hn, eH⟩ => ?_)
    subst ez
    rw [eH] at I'
    obtain ⟨tk, rfl⟩ := rz
    exact ⟨⟨by omega, by omega⟩, n, _, rfl, hn, I'.tok _⟩
  unfold Builtin.List.listLengthHint
  refine wpAny_bind (wpAny_bind (J5.type.here ((PySem.W.looks_findIn I5.kIn hdL.at_).here ?_)))
  refine PySem.W.KFB.if_not rfl ?_
  refine if_yes rfl ?_
  refine wpAny_bind (wpAny_rule ?_)
  refine wpAny_bind (wpAny_attempt (thn lenOk fun r s6 ⟨n, tk, er, hn6, I6⟩ => ?_))
  subst er
  refine wpAny_bind (wpAny_of_eq (a := some ((n : Nat) : Int)) (by rfl) ?_)
  refine PySem.W.KFB.if_not (by unfold Builtin.List.listTooLong; exact decide_eq_false (by rw [sizeLine_eq, Int.toNat_natCast]; omega)) ?_
  refine wpAny_pure ?_
  -- the loop
  have I7 : Inv X pins σ H s6 := I6.unpinned.unpinned
  have hS6 := (I6.pin (S, _) (List.mem_append_right _ (List.mem_append_left _ (List.mem_append_right _ (mem_pinsAt (List.mem_singleton.mpr rfl) hS2))))).1
  have g6 := (I6.pin (it, _) (List.mem_append_right _ (List.mem_append_right _ (mem_pinsAt (List.mem_singleton.mpr rfl) g)))).1
  have fIt2 : FpOk X pins H it := ⟨fIt.1, fIt.2.1, fIt.2.2.1, fIt.2.2.2.1, fIt.2.2.2.2.1, fun p hp => fIt.2.2.2.2.2 p ((List.mem_append.mp hp).elim (fun z => List.mem_append_left _ z) fun z => List.mem_append_right _ (List.mem_append_left _ z))⟩
  have Sne' : S ≠ it := fun z => by
    rw [z, g6] at hS6
    exact ty_ne (show Value.type "tuple_iterator" = Value.type "list" from congrArg Obj.cls (Option.some.inj hS6)) (by decide +kernel)
  have loop : ∀ (s7 : Shared) (c : Nat), Inv X pins σ H s7 → s7.heap.get? S = some { cls := .type "list", data := .seq #[] c } → s7.heap.get? it = some (itTup t 0) →
      codeAny (model X.prog X.w) X.A.in1 (.builtin "list.extend.loop" ⟨[.ref S, .ref it, .none], []⟩) (wants (fun r s₂ => r = .none ∧ EP X pins σ Q (.ref S) s₂) X.xe) s7 := by
    intro s7 c J7 hS7 g7
    obtain ⟨its, rz, pl, hz2⟩ := J7.tuple ht
    have tne : t ≠ it := fun z => by
      obtain ⟨o, e1, e2, _⟩ := pl
      rw [z, g7] at e1
      rw [← Option.some.inj e1] at e2
      exact ty_ne (show Value.type "tuple_iterator" = Value.type "tuple" from e2) (by decide +kernel)
    have Sne : S ≠ it := fun z => by
      rw [z, g7] at hS7
      exact ty_ne (show Value.type "tuple_iterator" = Value.type "list" from congrArg Obj.cls (Option.some.inj hS7)) (by decide +kernel)
    have St : S ≠ t := fun z => by
      obtain ⟨o, e1, e2, _⟩ := pl
      rw [← z, hS7] at e1
      rw [← Option.some.inj e1] at e2
      exact ty_ne (show Value.type "list" = Value.type "tuple" from e2) (by decide +kernel)
    have li : its.length = zs.length := rz.length.symm
    have W := (PySem.Walks.tuple (prog := X.prog) (w := X.w) (A := X.A.in1.in1) sb1.room.hd it t tne its.toArray).toS
    refine PySem.codeAny_extend_loopS (A := X.A.in1) W (by rw [List.size_toArray, sizeLine_eq]; omega) S (fun z => ?_) .none _ 0 s7 #[] c rfl (Nat.zero_le _) ⟨⟨_, g7, rfl, rfl⟩, pl⟩ hS7 (PySem.ItemsOf.nil _) fun s8 acc c8 m hS8 hit => ?_
    · rcases List.mem_cons.mp z with z | z
      · exact Sne z
      · exact St (List.mem_singleton.mp z)
    have eacc : acc = its.toArray := by
      refine Array.ext_getElem? fun j => ?_
      by_cases hj : j < acc.size
      · rw [Array.getElem?_eq_getElem hj]
        exact (hit.2 j _ (Array.getElem?_eq_getElem hj)).symm
      · rw [Array.getElem?_eq_none (by omega), Array.getElem?_eq_none (by rw [← hit.1]; omega)]
    subst eacc
    have J8 := J7.turnedL (h' := s8.heap) (t' := s8.toks) (ch := [S, it]) (fun b o hb e => m.heap b o hb e) (fun b hb => by
      rcases List.mem_cons.mp hb with z | z
      · rw [z]; exact fS
      · rw [List.mem_singleton.mp z]; exact fIt2)
    have J9 := J8.take (h' := s8.heap) (t' := s8.toks) (it := S) (o := .lst zs) (fun _ _ _ e => e) fS ⟨by rw [sizeLine_eq]; omega, its, c8, rz, hS8⟩
    have e8 : s8 = { s7 with heap := s8.heap, toks := s8.toks } := Moved.eq_with m
    rw [e8]
    exact ⟨rfl, .ref S, _, J9, rfl, q S nS⟩
  refine wpAny_ite_split (fun _ => ?_) (fun _ => wpAny_pure ⟨plainId_quiet PySem.F.plain_extend_loop _, loop s6 _ I7 hS6 g6⟩)
  refine wpAny_bind (wpAny_rule ?_)
  refine wpAny_bind ?_
  show wpAny _ _ (updateSeq S (·.push .none) >>= fun _ => updateSeq S (·.pop)) _ _ _
  refine wpAny_bind (wpAny_updateSeq hS6 rfl ?_)
  have e9 := Heap.get?_update_self (h := s6.heap) (f := Obj.mapSeq (·.push Value.none)) hS6 rfl
  refine wpAny_updateSeq e9 rfl ?_ (by show 1 ≤ sizeLine; rw [sizeLine_eq]; decide) (by show 0 ≤ sizeLine + 1; exact Nat.zero_le _)
  have e10 := Heap.get?_update_self (h := s6.heap.update S (Obj.mapSeq (·.push Value.none))) (f := Obj.mapSeq (·.pop)) e9 rfl
  have J := I7.turnedL (h' := (s6.heap.update S (Obj.mapSeq (·.push Value.none))).update S (Obj.mapSeq (·.pop))) (t' := s6.toks) (ch := [S]) (fun b o hb e => (Heap.get?_update_other _ _ (fun z => hb (by simp [z]))).trans ((Heap.get?_update_other _ _ (fun z => hb (by simp [z]))).trans e)) (fun b hb => by rw [List.mem_singleton.mp hb]; exact fS)
  refine wpAny_pure ⟨plainId_quiet PySem.F.plain_extend_loop _, loop _ _ J e10 ?_⟩
  exact (Heap.get?_update_other _ _ Sne').trans ((Heap.get?_update_other _ _ Sne').trans g6)
end
end Tw

set_option Elab.async false
set_option linter.all false
set_option maxRecDepth 100000
set_option maxHeartbeats 2000000
/-! own rule: sorted(t), t a tuple of whole numbers -/
namespace Tw
open PySem PySem.Spec PyProof.Rows L2
section
variable {prog : Program} {w : World} {A : Around} {E : Value → Shared → Prop} {s : Shared}
/-- a tuple's items, gathered: they are met as a list's are -/
theorem gather_tup {t : Addr} {vs : List Value} {Q : List Value → Shared → Prop} (ht : s.heap.IsTuple t vs.toArray)
    (h : Q vs { s with heap := (s.heap.push (seqObj "list" #[] 0)).update s.heap.objs.size (Obj.mapSeq (· ++ vs.toArray)) }) (hz : vs.length ≤ sizeLine) :
    wpAny (model prog w) A (collect (.ref t)) Q E s := by
  obtain ⟨o, ho, hc, n, hd⟩ := ht
  unfold collect
  refine wpAny_bind (wpAny_runValue (codeAny_builtin entry_proto_collect' ?_))
  show wpAny _ _ (do again (.builtin "list.__iadd__" ⟨[← newList [], .ref t], []⟩)) _ _ s
  refine wpAny_bind (wpAny_newList (wpAny_pure ⟨Code.quiet_builtin _ (by decide +kernel), codeAny_builtin entry_list_iadd' ?_⟩))
  show wpAny _ _ (Builtin.List.listExtendWith (.ref s.heap.objs.size) (.ref t) (.ref s.heap.objs.size)) _ _ { s with heap := s.heap.push (seqObj "list" #[] 0) }
  have ho2 : (s.heap.push (seqObj "list" #[] 0)).get? t = some o := Heap.get?_push_of_some _ ho
  unfold Builtin.List.listExtendWith
  refine wpAny_bind (wpAny_typeOf (T := "tuple") ⟨o, ho2, hc⟩ ?_)
  have tt : (Value.type "tuple" == Value.type "tuple") = true := by rfl
  rw [if_pos (by rw [tt]; simp)]
  refine wpAny_bind (listItems_at ho2 hd ?_)
  refine wpAny_bind (listItems_at (xs := #[]) (n := 0) (Heap.get?_push_size _ rfl) rfl ?_)
  rw [if_neg (by simp)]
  refine wpAny_bind (listUpdate_at (xs := #[]) (n := 0) (Heap.get?_push_size _ rfl) rfl ?_ (Nat.zero_le _) (by show (#[] ++ vs.toArray).size ≤ sizeLine + 1; simp only [Array.size_append, List.size_toArray, List.length_nil]; omega))
  refine wpAny_pure ?_
  refine wpAny_bind (wpAny_load (get?_update_seq (Heap.get?_push_size _ rfl) _) ?_)
  show wpAny _ _ (pure ((#[] : Array Value) ++ vs.toArray).toList) Q E _
  rw [show ((#[] : Array Value) ++ vs.toArray).toList = vs by simp]
  exact wpAny_pure h
end
def rSortedTu (K : PySem.W.Frag) : List V → Hp → VK → Prop := fun vs H Q => ∃ (a : Addr) (ns : List Int), vs = [V.ref a] ∧ SqT K H a (ns.map V.int) ∧
  ∀ (ns' : List Int) (p : Addr), ns'.Perm ns → ns'.Pairwise (· ≤ ·) → H p = none → Q (.ref p) (upd H p (.lst (ns'.map V.int)))
section
variable {X : Cx}
theorem cr_sortedTu : CallR X (.builtin "sorted") (rSortedTu X.K) := by
  intro pins s σ H vs us Q I r h
  obtain ⟨a, ns, rfl, hs, q⟩ := h
  obtain ⟨its, rv, hl, hz⟩ := I.tuple hs
  rw [Vals.ref1 r]
  have hi := rv.ints
  have hzi : its.length ≤ sizeLine := by rw [← rv.length]; exact hz
  refine Calls.call_function_entry kind_sorted plain_sorted entry_sorted (args_sorted1 _) ?_
  unfold Builtin.«sorted»
  refine wpAny_bind (m := checkCount "sorted" 1 1 _) (wpAny_pure ?_)
  refine wpAny_bind (gather_tup hl ?_ hzi)
  refine wpAny_bind (wpAny_newList ?_ hzi)
  have hsz : ((s.heap.push (seqObj "list" #[] 0)).update s.heap.objs.size (Obj.mapSeq (· ++ its.toArray))).objs.size = s.heap.objs.size + 1 := by
    rw [Heap.size_update, size_push']
  have hoL : (((s.heap.push (seqObj "list" #[] 0)).update s.heap.objs.size (Obj.mapSeq (· ++ its.toArray))).push (seqObj "list" its.toArray 0)).get? (s.heap.objs.size + 1) = some (seqObj "list" its.toArray 0) := by
    rw [← hsz]
    exact Heap.get?_push_size _ rfl
  show wpAny _ _ _ _ _ { s with heap := ((s.heap.push (seqObj "list" #[] 0)).update s.heap.objs.size (Obj.mapSeq (· ++ its.toArray))).push (seqObj "list" its.toArray 0) }
  rw [hsz]
  refine wpAny_bind (wpAny_holding (wpAny_call_entry slot_list_sort ⟨_, hoL, rfl⟩ entry_list_sort (SrtO.list_sort_ord SrtO.swo_int hoL hzi (fun h2 => SrtO.ints_sortable hi h2) fun out h1 h2 => ⟨_, rfl, ?_⟩) (args_list_sort _)))
  refine wpAny_pure ⟨_, rfl, ?_⟩
  obtain ⟨k1, k2, k3⟩ := SrtO.ints_out hi h1 h2
  obtain ⟨ep, he'⟩ := PyProof.Rows.sortedAll_at s.heap its out.toArray
  have hlen : ((out.map SrtO.iv).map V.int).length ≤ sizeLine := by
    rw [List.length_map, k2.length_eq]
    rw [List.length_map] at hz
    exact hz
  exact ⟨.ref _, upd H (s.heap.objs.size + 1) (.lst ((out.map SrtO.iv).map V.int)), I.laid (t' := s.toks) (fun _ _ => PyProof.Rows.sortedAll_old) (Nat.le_succ _) ⟨hlen, out, ep, vals_of_ints k1, he'⟩, rfl, q _ _ k2 k3 (I.hok.fresh (Nat.le_succ _))⟩
end
end Tw

set_option Elab.async false
set_option linter.all false
set_option maxRecDepth 100000
set_option maxHeartbeats 1000000
/-! != of two tuples of two things, equal ones in turn -/
namespace Cq
open PySem PySem.SeqAt
open AutoSeq1 (wpAny_loadPart')
open MeetsSeq MeetsSeq2 MeetsSeq3 SeqRoads2
theorem pairs_ne {prog : Program} {w : World} {A : Around} {R : Result → Shared → Prop} {p q : Addr} {a b c e : Value} {k k2 : Nat} {u u2 : Option Addr} {z z2 : Array (Option Value)} {s : Shared}
    (hp : s.heap.get? p = some { cls := .type "tuple", dict := u, data := .seq #[a, b] k, slots := z }) (hq : s.heap.get? q = some { cls := .type "tuple", dict := u2, data := .seq #[c, e] k2, slots := z2 })
    (h : wpAny (model prog w) A.in1 (eqBool a c) (fun r s1 => r = true ∧ wpAny (model prog w) A.in1 (eqBool b e) (fun r s2 => r = true ∧ R (.ok (.ret (.bool false))) s2) (fun x s2 => R (.error x) s2) s1) (fun x s1 => R (.error x) s1) s) :
    wpAny (model prog w) A.in1 (Builtin.«tuple.__ne__» ⟨[.ref p, .ref q], []⟩) (GQ.FinOf prog w A R) (fun x s1 => R (.error x) s1) s := by
  have sub2 := AutoSeq1.sub_tuple_tuple
  obtain ⟨hh, gg, dd, tk, os⟩ := s
  wp_walk using wpAny_loadPart' hp, wpAny_loadPart' hq, wpAny_forIn_list _ (fun rest t s1 => t.1 = none ∧ ((rest = [(a, c), (b, e)] ∧ wpAny (model prog w) A.in1 (eqBool a c) (fun r s1 => r = true ∧ wpAny (model prog w) A.in1 (eqBool b e) (fun r s2 => r = true ∧ R (.ok (.ret (.bool false))) s2) (fun x s2 => R (.error x) s2) s1) (fun x s1 => R (.error x) s1) s1) ∨
    (rest = [(b, e)] ∧ wpAny (model prog w) A.in1 (eqBool b e) (fun r s2 => r = true ∧ R (.ok (.ret (.bool false))) s2) (fun x s2 => R (.error x) s2) s1) ∨ (rest = [] ∧ R (.ok (.ret (.bool false))) s1))) _
  case turn =>
    rintro ⟨y, x⟩ rest t s1 ⟨ht, ⟨e1, h1⟩ | ⟨e1, h1⟩ | ⟨e1, _⟩⟩
    · injection e1 with e1 e2
      injection e1 with e3 e4
      subst e3 e4 e2
      refine wpAny_bind (wpAny_mono h1 (fun r s2 g => ?_) fun _ _ g => g)
      obtain ⟨rfl, g⟩ := g
      wp_walk
      exact ⟨rfl, .inr (.inl ⟨rfl, g⟩)⟩
    · injection e1 with e1 e2
      injection e1 with e3 e4
      subst e3 e4 e2
      refine wpAny_bind (wpAny_mono h1 (fun r s2 g => ?_) fun _ _ g => g)
      obtain ⟨rfl, g⟩ := g
      wp_walk
      exact ⟨rfl, .inr (.inr ⟨rfl, g⟩)⟩
    · cases e1
  case fin =>
    rintro ⟨t1, t2⟩ s1 ⟨ht, ⟨e1, _⟩ | ⟨e1, _⟩ | ⟨_, h1⟩⟩
    · cases e1
    · cases e1
    · simp only at ht
      subst ht
      wp_walk
      simpa [Builtin.Tuple.tupleCompareSizes] using h1
  case h => exact ⟨rfl, .inl ⟨rfl, h⟩⟩
end Cq
namespace L2
open PySem PySem.Spec PyProof.Rows
theorem vals_two {a b : V} {l : List Value} (r : Vals [a, b] l) : ∃ x y, l = [x, y] ∧ RelV a x ∧ RelV b y := by
  cases r with
  | cons ra r =>
    cases r with
    | cons rb r =>
      cases r
      exact ⟨_, _, rfl, ra, rb⟩
def DPair (K : PySem.W.Frag) (D1 D2 : Eqv) : Eqv := fun x y H => ∃ (p q : Addr) (a b c e : V), x = .ref p ∧ y = .ref q ∧ SqT K H p [a, b] ∧ SqT K H q [c, e] ∧ D1 a c H ∧ D2 b e H
def rNeP (D : Eqv) : R2 := fun x y H Q => D x y H ∧ ∀ H', Ext H H' → Q (.bl false) H'
theorem op_neP {X : Cx} {n : Nat} {D1 D2 : Eqv} (g1 : EqG X n D1) (g2 : EqG X n D2) (m2 : Mon D2) (hr : Room (n + 1) X.A) : OpR X (compareOp .NotEq) (rNeP (DPair X.K D1 D2)) := by
  intro pins s σ H x y v u Q I rx ry ⟨⟨p, q, a, b, c, e, ex, ey, hp, hq, d1, d2⟩, k⟩
  subst ex ey
  cases rx
  cases ry
  have sb : Sub X (n + 1) X.A := ⟨hr, rfl⟩
  obtain ⟨its, r, e1, _⟩ := I.tuple hp
  obtain ⟨its2, r2, e2, _⟩ := I.tuple hq
  obtain ⟨va, vb, ei, ra, rb⟩ := vals_two r
  obtain ⟨vc, ve, ei2, rc, re⟩ := vals_two r2
  subst ei ei2
  obtain ⟨⟨cl, u1, da, z1⟩, o1, c1, n1, w1⟩ := id e1
  obtain ⟨⟨cl2, u2, da2, z2⟩, o2, c2, n2, w2⟩ := id e2
  dsimp only at c1 w1 c2 w2
  subst c1 w1 c2 w2
  show wpAny (model X.prog X.w) X.A (richCompare .NotEq (.ref p) (.ref q)) (EP X pins σ Q) X.xe s
  refine wpAny_richCompare_same_room (op := .NotEq) ⟨_, o1, rfl⟩ ⟨_, o2, rfl⟩ F.slot_tuple_ne (GQ.call_here F.slot_tuple_ne ⟨_, o1, rfl⟩ F.entry_tuple_ne (F.args_tuple_ne_2 _ _) ?_) hr.units0
  refine Cq.pairs_ne (R := wants (fun v s' => v ≠ .notImplemented ∧ EP X pins σ Q v s') X.xe) o1 o2 ?_
  refine wpAny_mono (g1 X.A.in1 pins s σ H _ _ va vc sb.in1 I ra rc d1) (fun t s1 ⟨ht, H1, I1, x1⟩ => ⟨ht, ?_⟩) fun _ _ g => g
  refine wpAny_mono (g2 X.A.in1 pins s1 σ H1 _ _ vb ve sb.in1 I1 rb re (m2 _ _ _ _ x1 d2)) (fun t s2 ⟨ht, H2, I2, x2⟩ => ⟨ht, ?_⟩) fun _ _ g => g
  exact ⟨(fun g => nomatch g), .bl false, H2, I2, rfl, k H2 (x1.trans x2)⟩
end L2


set_option Elab.async false
set_option linter.all false
set_option maxRecDepth 100000
set_option maxHeartbeats 4000000
/-! set(xs), xs a list of ints, as a value -/
namespace L2
open PySem PySem.Spec PyProof.Rows
section
variable {P : Program} {w : World} {A : Around} {E : Value → Shared → Prop}
/-- the set that is there at first -/
abbrev eS (w : World) : Obj := { cls := .type "set", dict := none, data := .set #[] 0 (.fresh 0 0 (!w.params.followText "set-order")) }
theorem init_over {z : Shared} {D l : Addr} {items : Array Value} {ns : List Int} {R : Result → Shared → Prop} (hh : A.handled = none) (hD : z.heap.get? D = some (eS w)) (hl : z.heap.IsList l items) (hit : IntsAre items.toList ns) (hb : ns.length + 1 < scanBound) (hne : l ≠ D)
    (q : ∀ (h' : Heap) (tk c : Nat), SetR w h' D (fun j => decide (j ∈ ns)) c → c ≤ ns.length → (∀ b o, b ≠ D → z.heap.get? b = some o → h'.get? b = some o) → R (.ok (.ret .none)) { z with heap := h', toks := tk }) :
    codeAny (model P w) A (.call (.builtin "set.__init__") ⟨[.ref D, .ref l], []⟩) R z := by
  have hn : items.size = ns.length := by
    have e := IntsAre.length hit
    rw [Array.length_toList] at e
    exact e
  have hT : Shared.TypeIs z (.ref D) "set" := ⟨_, hD, rfl⟩
  have lD : D < z.heap.objs.size := Heap.lt_size hD
  obtain ⟨⟨oc, od, oa, os⟩, hol, hcl, nl, hdl⟩ := id hl
  have ll : l < z.heap.objs.size := Heap.lt_size hol
  dsimp only at hcl hdl
  subst hcl hdl
  have no1 := F.sub_list_set
  have no2 := F.sub_list_frozenset
  have no3 : (Value.type "list" == Value.type "dict") = false := by decide
  refine codeAny_call_builtin F.called_set.init.plain F.entry_set_init (check_set_init_1 hT ?_)
  unfold Builtin.«set.__init__» noKeywords Builtin.Frozenset.updateFrom
  generalize hPI : pyIter = PI
  wp_walk
  subst hPI
  refine wpAny_pyIter_list hl ?_
  refine wpAny_bind (wpAny_runValue ?_)
  have free3 : A.in1.in1.handled = none := by simp [hh]
  have apart : l ≠ z.heap.objs.size := Nat.ne_of_lt ll
  have offS : D ∉ [z.heap.objs.size, l] := fun m => by
    rcases List.mem_cons.mp m with y | y
    · exact absurd y (Nat.ne_of_lt lD)
    · exact hne (List.mem_singleton.mp y).symm
  have each : ∀ (i : Nat) (v : Value), items[i]? = some v → ∃ k t, ns[i]? = some k ∧ v = .int k t := fun i v e => by
    have hi : i < ns.length := hn ▸ (Array.getElem?_eq_some_iff.mp e).1
    obtain ⟨t, e2⟩ := IntsAre.int_at hit i v (by rw [Array.getElem?_toList]; exact e)
    exact ⟨ns[i], t, List.getElem?_eq_getElem hi, by rw [e2, List.getD_eq_getElem?_getD, List.getElem?_eq_getElem hi]; rfl⟩
  refine set_update_ints ((Walks.list free3 _ l apart items).toS) D offS ns hn hb each (items.size - 0) 0 _ (by omega) (Nat.zero_le _) ?_ ⟨0, Nat.le_refl 0, ?_⟩ ?_
  · exact ⟨⟨_, Heap.get?_push_size _ rfl, rfl, rfl⟩, hl.push _⟩
  · exact setR_new_at (Heap.get?_push_of_some _ hD)
  rintro ⟨h', gens', drawn', tk', os'⟩ c moved hc new
  obtain rfl : gens' = z.gens := moved.gens
  obtain rfl : drawn' = z.drawn := moved.drawn
  obtain rfl : os' = z.os := moved.os
  show wpAny _ _ _ _ _ _
  refine wpAny_pure ?_
  show wpAny _ _ (ret Value.none) _ _ _
  refine wpAny_pure (q h' tk' c new (by omega) fun b o hbD e => ?_)
  have lb : b < z.heap.objs.size := Heap.lt_size e
  refine moved.heap b o (fun m => ?_) (Heap.get?_push_of_some _ e)
  rcases List.mem_cons.mp m with y | y
  · exact hbD y
  · exact absurd (List.mem_singleton.mp y) (Nat.ne_of_lt lb)
theorem set_over {z : Shared} {l : Addr} {items : Array Value} {ns : List Int} {Q : Value → Shared → Prop} (hh : A.handled = none) (hl : z.heap.IsList l items) (hit : IntsAre items.toList ns) (hb : ns.length + 1 < scanBound)
    (q : ∀ (h' : Heap) (tk c : Nat), SetR w h' z.heap.objs.size (fun j => decide (j ∈ ns)) c → c ≤ ns.length → (∀ b o, z.heap.get? b = some o → h'.get? b = some o) → Q (.ref z.heap.objs.size) { z with heap := h', toks := tk }) :
    wpAny (model P w) A (call (.type "set") [.ref l]) Q E z := by
  obtain ⟨c0, t0, mro0⟩ := F.called_set.mro
  have m1 := F.called_set.made
  have m2 := F.called_set.sub
  have m3 := F.called_set.notType
  have m4 := F.called_set.canCreate
  have m5 := F.typeCall_set_1 (.ref l)
  have ll : l < z.heap.objs.size := by
    obtain ⟨o, ho, _⟩ := id hl
    exact Heap.lt_size ho
  refine wpAny_call (codeAny_of_tree ?_)
  show wpAny _ _ (callAny (.type "set") _) _ _ _
  refine wpAny_pure ⟨Code.quiet_builtin _ (by decide +kernel), codeAny_builtin F.entry_type_call ?_⟩
  rw [Around.under_plain (weight_type_call_type "set" [.ref l] []) rfl]
  repeat any_goals first | assumption | wp_step
  have new1 : (z.heap.push (eS w)).get? z.heap.objs.size = some (eS w) := Heap.get?_push_size _ rfl
  refine codeAny_mono (code_set_led1 (.ref l) (E := E) (Q₁ := fun v y => v = .ref z.heap.objs.size ∧ y = { z with heap := z.heap.push (eS w) }) ⟨rfl, rfl⟩) fun r y hr => ?_
  cases r with
  | error e => exact hr
  | ok fl =>
    cases fl with
    | ret v =>
      obtain ⟨rfl, rfl⟩ := hr
      have hT : Shared.TypeIs { z with heap := z.heap.push (eS w) } (.ref z.heap.objs.size) "set" := ⟨_, new1, rfl⟩
      have i1 := F.called_set.init.lookup
      have i2 := F.called_set.init.bind (.ref z.heap.objs.size)
      repeat any_goals first | assumption | wp_step
      refine init_over (A := A.in1) (z := { z with heap := z.heap.push (eS w) }) (D := z.heap.objs.size) (by simp [hh]) new1 (hl.push _) hit hb (Nat.ne_of_lt ll) fun h' tk c S hc k => ?_
      show wpAny _ _ (pure (some Value.none)) _ _ _
      repeat any_goals first | assumption | wp_step
      exact q h' tk c S hc fun b o e => k b o (Nat.ne_of_lt (Heap.lt_size e)) (Heap.get?_push_of_some _ e)
    | _ => exact hr.elim
end
section
variable {X : Cx}
/-- set(xs) -/
def rSetLI (K : PySem.W.Frag) (w : World) : List V → Hp → VK → Prop := fun xs H Q => ∃ (l : Addr) (ns : List Int), xs = [V.ref l] ∧ SqL K H l (ns.map V.int) ∧ ns.length ≤ 1000 ∧ ∀ p n, n ≤ ns.length → H p = none → Q (.ref p) (upd H p (SetO w p (fun j => decide (j ∈ ns)) n))
theorem cr_setLI (hc : X.calm = true) : CallR X (.type "set") (rSetLI X.K X.w) := by
  intro pins s σ H xs us Q I r h
  obtain ⟨l, ns, rfl, hl, h1, q⟩ := h
  obtain ⟨its, rv, pl, _⟩ := I.list hl
  rw [Vals.ref1 r]
  refine set_over (I.ok.hd hc) pl.isList (ns := ns) (by simpa using rv.ints) (by unfold scanBound; omega) fun h' tk c R hc k => ?_
  exact ⟨.ref _, upd H s.heap.objs.size (SetO X.w s.heap.objs.size (fun j => decide (j ∈ ns)) c), I.laid (t' := tk) k (Nat.le_refl _) (setO_new R), rfl, q _ c hc (I.hok.fresh (Nat.le_refl _))⟩
end
end L2

set_option Elab.async false
set_option linter.all false
set_option maxRecDepth 100000
set_option maxHeartbeats 4000000
/-! sorted(xs), xs a list of tuples of ints, as long as a list may be -/
namespace L2
open PySem PySem.Spec PyProof.Rows PySem.W
abbrev tupE (ns : List Int) : PyData := .tuple (ns.map .int)
theorem tupE_le : dataLe false tupE = fun p q => decide (p ≤ q) := by
  funext p q
  show (!dataLt (.tuple (q.map .int)) (.tuple (p.map .int))) = _
  rw [dataLt_tuple]
  show (!rowLt (q.map .int) (p.map .int)) = _
  rw [dataLt_ints]
  by_cases h : q < p
  · have h' : ¬ p ≤ q := fun r => List.not_lt.mpr r h
    simp [h, h']
  · have h' : p ≤ q := List.not_lt.mp h
    simp [h, h']
section
variable {X : Cx} {pins : List (Addr × Obj)} {σ : St} {H : Hp} {s : Shared}
abbrev TupV (K : PySem.W.Frag) (H : Hp) (u : Value) (ns : List Int) : Prop := ∃ t, u = .ref t ∧ SqT K H t (ns.map V.int)
theorem tupV_of : ∀ {xs : List V} {bs : List (List Int)} {us : List Value}, Paired (TupI X.K H) xs bs → Vals xs us → EachIs (TupV X.K H) us bs
  | _, _, _, .nil, .nil => .nil
  | _, _, _, .cons ⟨t, e, h⟩ p, .cons r v => by
    subst e
    cases r
    exact .cons ⟨t, rfl, h⟩ (tupV_of p v)
theorem tupV_to : ∀ {bs : List (List Int)} {us : List Value}, EachIs (TupV X.K H) us bs → Paired (TupI X.K H) (us.map bkV) bs ∧ ∀ u ∈ us, ∃ a, u = Value.ref a
  | _, _, .nil => ⟨.nil, fun u hu => absurd hu (by simp)⟩
  | _, _, .cons ⟨t, e, h⟩ p => by
    subst e
    obtain ⟨h1, h2⟩ := tupV_to p
    refine ⟨.cons ⟨t, rfl, h⟩ h1, fun u hu => ?_⟩
    rcases List.mem_cons.mp hu with e | hu
    · exact ⟨t, e⟩
    · exact h2 u hu
theorem tupV_reads (I : Inv X pins σ H s) {u : Value} {ns : List Int} (h : TupV X.K H u ns) : ∃ as, Reads s.heap u (tupE ns) as := by
  obtain ⟨t, rfl, ht⟩ := h
  obtain ⟨its, rv, hT, _⟩ := I.tuple ht
  exact ⟨_, reads_tuple_ints hT (by simpa using rv.ints)⟩
/-- sorted(xs): the items ascending as tuples are -/
def rSortTA (K : PySem.W.Frag) : List V → Hp → VK → Prop := fun vs H Q => ∃ (a : Addr) (xs : List V) (bs : List (List Int)), vs = [V.ref a] ∧ SqL K H a xs ∧ Paired (TupI K H) xs bs ∧ (∀ b ∈ bs, b ≠ []) ∧
  ∀ (ys : List V) (p : Addr), Paired (TupI K H) ys (bs.mergeSort fun p q => decide (p ≤ q)) → H p = none → Q (.ref p) (upd H p (.lst ys))
theorem cr_sortTA (hu : X.A.units + 65 < cLine) : CallR X (.builtin "sorted") (rSortTA X.K) := by
  intro pins s σ H vs us Q I r h
  obtain ⟨a, xs, bs, rfl, hs, hp, hne, q⟩ := h
  obtain ⟨its, rv, hl, hz⟩ := I.list hs
  rw [Vals.ref1 r]
  have e0 : EachIs (TupV X.K H) its bs := tupV_of hp rv
  have hlen : bs.length = xs.length := (Paired.length hp).symm
  refine sorted_data (A := X.A) (R := TupV X.K H) (enc := tupE) hl.isList e0 (e0.mono fun u ns h => tupV_reads I h) (AllAlike.of fun b b' => by simp [alike, alike_ints]) (.inl fun d hd => ?_) (by rw [hlen]; exact hz) (fun b _ => ?_) fun out ho eo => ?_
  · obtain ⟨b, hb, rfl⟩ := List.mem_map.mp hd
    match b, hne b hb with
    | x :: r, _ => exact ⟨_, _, rfl⟩
  · have : (tupE b).depth ≤ 1 := by simp [PyData.depth, depth_ints]
    omega
  · rw [tupE_le] at eo
    obtain ⟨e1, e2⟩ := tupV_to eo
    obtain ⟨ep, he'⟩ := PyProof.Rows.sortedAll_at s.heap its out.toArray
    have hz2 : (out.map bkV).length ≤ sizeLine := by
      rw [List.length_map, ho, hlen]
      exact hz
    exact ⟨.ref _, upd H (s.heap.objs.size + 1) (.lst (out.map bkV)), I.laid (t' := s.toks) (fun _ _ => PyProof.Rows.sortedAll_old) (Nat.le_succ _) ⟨hz2, out, ep, bkV_vals e2, he'⟩, rfl, q _ _ e1 (I.hok.fresh (Nat.le_succ _))⟩
end
end L2

set_option Elab.async false
set_option linter.all false
set_option maxRecDepth 100000
set_option maxHeartbeats 4000000
/-! math.factorial -/
namespace L2
open PySem PySem.Spec PyProof.Rows
section
variable {X : Cx}
abbrev facN (n : Nat) : Nat := PySem.Builtin.Math.factorialNat n
def rFac : List V → Hp → VK → Prop := fun vs H Q => ∃ n : Nat, vs = [.int n] ∧ n ≤ 20000 ∧ Q (.int (facN n : Nat)) H
theorem cr_fac : CallR X (.builtin "math.factorial") rFac := by
  intro pins s σ H vs us Q I r h
  obtain ⟨n, rfl, hn, q⟩ := h
  cases r with
  | cons r1 r2 =>
    cases r2
    obtain ⟨t, rfl⟩ := r1
    exact PySem.W.mc_factorial (by omega) (by omega) fun _ => ⟨.int _, H, I.tok _, ⟨_, rfl⟩, q⟩
end
end L2

set_option Elab.async false
set_option linter.all false
set_option maxRecDepth 100000
set_option maxHeartbeats 4000000
/-! sorted(xs), xs a list of one item at most, whatever it is -/
namespace L2
open PySem PySem.Spec PyProof.Rows PySem.W
section
variable {X : Cx}
def rSort1 (K : PySem.W.Frag) : List V → Hp → VK → Prop := fun vs H Q => ∃ (a : Addr) (xs : List V), vs = [V.ref a] ∧ SqL K H a xs ∧ xs.length ≤ 1 ∧
  ∀ p : Addr, H p = none → Q (.ref p) (upd H p (.lst xs))
theorem cr_sort1 : CallR X (.builtin "sorted") (rSort1 X.K) := by
  intro pins s σ H vs us Q I r h
  obtain ⟨a, xs, rfl, hs, h1, q⟩ := h
  obtain ⟨its, rv, hl, hz⟩ := I.list hs
  rw [Vals.ref1 r]
  have hlen : xs.length = its.length := rv.length
  refine Srt.sorted_any hl.isList (by omega) (fun h2 => by omega) fun out hp => ?_
  have e : out = its := by
    match its, hlen with
    | [], _ => exact List.Perm.eq_nil hp
    | [x], _ => exact List.perm_singleton.mp hp
    | _ :: _ :: _, hl => simp only [List.length_cons] at hl; omega
  subst e
  obtain ⟨ep, he'⟩ := PyProof.Rows.sortedAll_at s.heap out out.toArray
  exact ⟨.ref _, upd H (s.heap.objs.size + 1) (.lst xs), I.laid (t' := s.toks) (fun _ _ => PyProof.Rows.sortedAll_old) (Nat.le_succ _) ⟨hz, out, ep, rv, he'⟩, rfl, q _ (I.hok.fresh (Nat.le_succ _))⟩
end
end L2

set_option Elab.async false
set_option linter.all false
set_option maxRecDepth 100000
set_option maxHeartbeats 4000000
/-! xs.extend(t), t a tuple -/
namespace PySem
open PySem PySem.W PySem.AutoSeq1
theorem ext_tup {l b : Addr} {items items2 : Array Value} {n n2 : Nat} {dc : Option Addr} {sl : Array (Option Value)} (hs0 : ¬(!items.isEmpty && Builtin.List.listTooLong (items.size + items2.size)) = true) (hs1 : items.size ≤ sizeLine) (hs2 : items.size + items2.size ≤ sizeLine + 1) :
    Meets (Builtin.«list.extend» ⟨[.ref l, .ref b], []⟩) (fun _ R s => s.heap.get? l = some { cls := .type "list", dict := none, data := .seq items n, slots := #[] } ∧ s.heap.get? b = some { cls := .type "tuple", dict := dc, data := .seq items2 n2, slots := sl } ∧
      R (.ok (.ret Value.none)) { s with heap := s.heap.update l (Obj.mapSeq fun x => x ++ items2), toks := s.toks }) :=
  .of_wp fun prog w A R s h => by
    obtain ⟨hp, g, d, tk, os⟩ := s
    obtain ⟨hl, hb, h⟩ := h
    have f1 := idx_int
    have f2 := sub_tuple_tuple
    have f3 := sub_list_list
    have f4 := sub_tuple_list
    have f5 := sub_list_tuple
    have hz' : (items ++ items2).size ≤ sizeLine + 1 := by rw [Array.size_append]; exact hs2
    wp_walk using (wpAny_updateSeq hl rfl (hz := hs1) (_hz' := hz')), wpAny_loadPart' hl, wpAny_loadPart' hb
    exact ⟨_, rfl, h⟩
end PySem
namespace L2
open PySem PySem.Spec PyProof.Rows PySem.W
section
variable {X : Cx}
def rExtT (K : PySem.W.Frag) : V → List V → Hp → VK → Prop := fun x vs H Q => ∃ (l b : Addr) (xs zs : List V), x = .ref l ∧ vs = [.ref b] ∧ H l = some (.lst xs) ∧ SqT K H b zs ∧ xs.length + zs.length ≤ sizeLine ∧
  Q .non (upd H l (.lst (xs ++ zs)))
theorem mt_extendT : MtM X "list.extend" (rExtT X.K) := by
  intro pins s σ H x vs v us Q I rx rv h
  obtain ⟨l, b, xs, zs, rfl, rfl, hH, hB, hz, q⟩ := h
  cases rx
  obtain ⟨u, rfl, ru⟩ := rv.one
  cases ru
  obtain ⟨z, its, n, r, hl, e⟩ := I.lstM hH
  obtain ⟨its2, r2, ⟨ob, eb, hc, n2, hd⟩, hl2⟩ := I.tuple hB
  obtain ⟨cls, dc, data, sl⟩ := ob
  dsimp only at hc hd
  subst hc hd
  have h1 := r.length
  have h2 := r2.length
  have hsz : its.toArray.size + its2.toArray.size ≤ sizeLine := by rw [List.size_toArray, List.size_toArray]; omega
  have hlong : ¬ (!its.toArray.isEmpty && Builtin.List.listTooLong (its.toArray.size + its2.toArray.size)) = true := by
    rw [notLongL hsz, Bool.and_false]
    exact Bool.false_ne_true
  refine call_meets F.slot_list_extend ⟨_, e, rfl⟩ F.entry_list_extend (F.args_list_extend_2 _ _) (PySem.ext_tup hlong (by rw [List.size_toArray]; omega) (by omega)) ⟨e, eb, ?_⟩
  refine ⟨.non, _, I.lset (its' := its ++ its2) hH e (by simp) (r.append r2) ?_, rfl, q⟩
  rw [List.length_append]
  omega
end
end L2

set_option Elab.async false
set_option linter.all false
set_option maxRecDepth 100000
set_option maxHeartbeats 4000000
/-! set(xs), xs a tuple of ints, as a value -/
namespace L2
open PySem PySem.Spec PyProof.Rows
section
variable {P : Program} {w : World} {A : Around} {E : Value → Shared → Prop}
theorem sub_tup_set : isSubtype (.type "tuple") (.type "set") = pure false := by rw [isSubtype_type]; kernel_rfl
theorem sub_tup_frz : isSubtype (.type "tuple") (.type "frozenset") = pure false := by rw [isSubtype_type]; kernel_rfl
theorem init_overT {z : Shared} {D l : Addr} {items : Array Value} {ns : List Int} {R : Result → Shared → Prop} (hh : A.handled = none) (hD : z.heap.get? D = some (eS w)) (hl : z.heap.IsTuple l items) (hit : IntsAre items.toList ns) (hb : ns.length + 1 < scanBound) (hne : l ≠ D)
    (q : ∀ (h' : Heap) (tk c : Nat), SetR w h' D (fun j => decide (j ∈ ns)) c → c ≤ ns.length → (∀ b o, b ≠ D → z.heap.get? b = some o → h'.get? b = some o) → R (.ok (.ret .none)) { z with heap := h', toks := tk }) :
    codeAny (model P w) A (.call (.builtin "set.__init__") ⟨[.ref D, .ref l], []⟩) R z := by
  have hn : items.size = ns.length := by
    have e := IntsAre.length hit
    rw [Array.length_toList] at e
    exact e
  have hT : Shared.TypeIs z (.ref D) "set" := ⟨_, hD, rfl⟩
  have lD : D < z.heap.objs.size := Heap.lt_size hD
  obtain ⟨⟨oc, od, oa, os⟩, hol, hcl, nl, hdl⟩ := id hl
  have ll : l < z.heap.objs.size := Heap.lt_size hol
  dsimp only at hcl hdl
  subst hcl hdl
  have no1 := sub_tup_set
  have no2 := sub_tup_frz
  have no3 : (Value.type "tuple" == Value.type "dict") = false := by decide
  refine codeAny_call_builtin F.called_set.init.plain F.entry_set_init (check_set_init_1 hT ?_)
  unfold Builtin.«set.__init__» noKeywords Builtin.Frozenset.updateFrom
  generalize hPI : pyIter = PI
  wp_walk
  subst hPI
  refine wpAny_pyIter_tuple hl ?_
  refine wpAny_bind (wpAny_runValue ?_)
  have free3 : A.in1.in1.handled = none := by simp [hh]
  have apart : l ≠ z.heap.objs.size := Nat.ne_of_lt ll
  have offS : D ∉ [z.heap.objs.size, l] := fun m => by
    rcases List.mem_cons.mp m with y | y
    · exact absurd y (Nat.ne_of_lt lD)
    · exact hne (List.mem_singleton.mp y).symm
  have each : ∀ (i : Nat) (v : Value), items[i]? = some v → ∃ k t, ns[i]? = some k ∧ v = .int k t := fun i v e => by
    have hi : i < ns.length := hn ▸ (Array.getElem?_eq_some_iff.mp e).1
    obtain ⟨t, e2⟩ := IntsAre.int_at hit i v (by rw [Array.getElem?_toList]; exact e)
    exact ⟨ns[i], t, List.getElem?_eq_getElem hi, by rw [e2, List.getD_eq_getElem?_getD, List.getElem?_eq_getElem hi]; rfl⟩
  refine set_update_ints ((Walks.tuple free3 _ l apart items).toS) D offS ns hn hb each (items.size - 0) 0 _ (by omega) (Nat.zero_le _) ?_ ⟨0, Nat.le_refl 0, ?_⟩ ?_
  · exact ⟨⟨_, Heap.get?_push_size _ rfl, rfl, rfl⟩, hl.push _⟩
  · exact setR_new_at (Heap.get?_push_of_some _ hD)
  rintro ⟨h', gens', drawn', tk', os'⟩ c moved hc new
  obtain rfl : gens' = z.gens := moved.gens
  obtain rfl : drawn' = z.drawn := moved.drawn
  obtain rfl : os' = z.os := moved.os
  show wpAny _ _ _ _ _ _
  refine wpAny_pure ?_
  show wpAny _ _ (ret Value.none) _ _ _
  refine wpAny_pure (q h' tk' c new (by omega) fun b o hbD e => ?_)
  have lb : b < z.heap.objs.size := Heap.lt_size e
  refine moved.heap b o (fun m => ?_) (Heap.get?_push_of_some _ e)
  rcases List.mem_cons.mp m with y | y
  · exact hbD y
  · exact absurd (List.mem_singleton.mp y) (Nat.ne_of_lt lb)
theorem set_overT {z : Shared} {l : Addr} {items : Array Value} {ns : List Int} {Q : Value → Shared → Prop} (hh : A.handled = none) (hl : z.heap.IsTuple l items) (hit : IntsAre items.toList ns) (hb : ns.length + 1 < scanBound)
    (q : ∀ (h' : Heap) (tk c : Nat), SetR w h' z.heap.objs.size (fun j => decide (j ∈ ns)) c → c ≤ ns.length → (∀ b o, z.heap.get? b = some o → h'.get? b = some o) → Q (.ref z.heap.objs.size) { z with heap := h', toks := tk }) :
    wpAny (model P w) A (call (.type "set") [.ref l]) Q E z := by
  obtain ⟨c0, t0, mro0⟩ := F.called_set.mro
  have m1 := F.called_set.made
  have m2 := F.called_set.sub
  have m3 := F.called_set.notType
  have m4 := F.called_set.canCreate
  have m5 := F.typeCall_set_1 (.ref l)
  have ll : l < z.heap.objs.size := by
    obtain ⟨o, ho, _⟩ := id hl
    exact Heap.lt_size ho
  refine wpAny_call (codeAny_of_tree ?_)
  show wpAny _ _ (callAny (.type "set") _) _ _ _
  refine wpAny_pure ⟨Code.quiet_builtin _ (by decide +kernel), codeAny_builtin F.entry_type_call ?_⟩
  rw [Around.under_plain (weight_type_call_type "set" [.ref l] []) rfl]
  repeat any_goals first | assumption | wp_step
  have new1 : (z.heap.push (eS w)).get? z.heap.objs.size = some (eS w) := Heap.get?_push_size _ rfl
  refine codeAny_mono (code_set_led1 (.ref l) (E := E) (Q₁ := fun v y => v = .ref z.heap.objs.size ∧ y = { z with heap := z.heap.push (eS w) }) ⟨rfl, rfl⟩) fun r y hr => ?_
  cases r with
  | error e => exact hr
  | ok fl =>
    cases fl with
    | ret v =>
      obtain ⟨rfl, rfl⟩ := hr
      have hT : Shared.TypeIs { z with heap := z.heap.push (eS w) } (.ref z.heap.objs.size) "set" := ⟨_, new1, rfl⟩
      have i1 := F.called_set.init.lookup
      have i2 := F.called_set.init.bind (.ref z.heap.objs.size)
      repeat any_goals first | assumption | wp_step
      refine init_overT (A := A.in1) (z := { z with heap := z.heap.push (eS w) }) (D := z.heap.objs.size) (by simp [hh]) new1 (hl.push _) hit hb (Nat.ne_of_lt ll) fun h' tk c S hc k => ?_
      show wpAny _ _ (pure (some Value.none)) _ _ _
      repeat any_goals first | assumption | wp_step
      exact q h' tk c S hc fun b o e => k b o (Nat.ne_of_lt (Heap.lt_size e)) (Heap.get?_push_of_some _ e)
    | _ => exact hr.elim
end
section
variable {X : Cx}
/-- set(xs) -/
def rSetTI (K : PySem.W.Frag) (w : World) : List V → Hp → VK → Prop := fun xs H Q => ∃ (l : Addr) (ns : List Int), xs = [V.ref l] ∧ SqT K H l (ns.map V.int) ∧ ns.length ≤ 1000 ∧ ∀ p n, n ≤ ns.length → H p = none → Q (.ref p) (upd H p (SetO w p (fun j => decide (j ∈ ns)) n))
theorem cr_setTI (hc : X.calm = true) : CallR X (.type "set") (rSetTI X.K X.w) := by
  intro pins s σ H xs us Q I r h
  obtain ⟨l, ns, rfl, hl, h1, q⟩ := h
  obtain ⟨its, rv, pl, _⟩ := I.tuple hl
  rw [Vals.ref1 r]
  refine set_overT (I.ok.hd hc) pl (ns := ns) (by simpa using rv.ints) (by unfold scanBound; omega) fun h' tk c R hc k => ?_
  exact ⟨.ref _, upd H s.heap.objs.size (SetO X.w s.heap.objs.size (fun j => decide (j ∈ ns)) c), I.laid (t' := tk) k (Nat.le_refl _) (setO_new R), rfl, q _ c hc (I.hok.fresh (Nat.le_refl _))⟩
end
end L2

set_option Elab.async false
set_option linter.all false
set_option maxRecDepth 100000
set_option maxHeartbeats 4000000
/-! t > u, both tuples of ints -/
namespace L2
open PySem PySem.Spec PyProof.Rows
abbrev gtB (ns ms : List Int) : Bool := Ob.lexAt (fun j => decide (ns.getD j 0 = ms.getD j 0)) (fun j => decide (ms.getD j 0 < ns.getD j 0)) (decide (ms.length < ns.length)) 0 (min ns.length ms.length)
def rGtT (K : PySem.W.Frag) : R2 := fun x y H Q => ∃ (t1 t2 : Addr) (ns ms : List Int), (x = .ref t1 ∧ y = .ref t2) ∧ (SqT K H t1 (ns.map V.int) ∧ SqT K H t2 (ms.map V.int)) ∧ Q (.bl (gtB ns ms)) H
theorem op_gtT {X : Cx} (few : X.A.units < cLine) : OpR X (compareOp .Gt) (rGtT X.K) := by
  rintro pins s σ H x y v u Q I rx ry ⟨t1, t2, ns, ms, ⟨rfl, rfl⟩, ⟨h1, h2⟩, q⟩
  cases rx; cases ry
  obtain ⟨us, va, pa, _⟩ := I.tuple h1
  obtain ⟨ws, vb, pb, _⟩ := I.tuple h2
  have item : ∀ {zs : List Value} {ks : List Int}, IntsAre zs ks → ∀ j (h : j < zs.toArray.size), ∃ t, zs.toArray[j] = .int (ks.getD j 0) t := fun ii j h =>
    PyProof.Rows.IntsAre.int_at ii _ _ (by simp at h; simp [h])
  have size : ∀ {zs : List Value} {ks : List Int}, IntsAre zs ks → zs.toArray.size = ks.length := fun ii => by rw [List.size_toArray]; exact ii.length
  have beq : ∀ a b : Int, decide (a = b) = (a == b) := fun a b => by
    by_cases c : a = b
    · subst c; simp
    · rw [decide_eq_false c]; exact (beq_eq_false_iff_ne.mpr c).symm
  have main := Ob.RcOp.tuples_gt (A := X.A) (s := s) (e := fun j => decide (ns.getD j 0 = ms.getD j 0)) (r := fun j => decide (ms.getD j 0 < ns.getD j 0)) pa pb few
    (fun j i1 i2 => by
      obtain ⟨k1, g1⟩ := item va.ints j i1
      obtain ⟨k2, g2⟩ := item vb.ints j i2
      rw [g1, g2, beq]
      exact SeqAt.EqAt.int_int _ _ _ _)
    (fun j i1 i2 _ => by
      obtain ⟨k1, g1⟩ := item va.ints j i1
      obtain ⟨k2, g2⟩ := item vb.ints j i2
      rw [g1, g2]
      exact Ob.RcOp.gt_int _ _ _ _)
  rw [size va.ints, size vb.ints] at main
  exact main X.prog X.w X.xe (EP X pins σ Q) ⟨.bl _, H, I, rfl, q⟩
end L2

set_option Elab.async false
set_option linter.all false
set_option maxRecDepth 100000
set_option maxHeartbeats 4000000
/-! sorted(xs), xs a list of tuples of ints, the first of which has no item -/
namespace PySem.W
open PySem PySem.Calls PyProof.Rows PySem.SeqAt
section
variable {prog : Program} {w : World} {A : Around} {E : Value → Shared → Prop} {s : Shared}
theorem call_tuple_ltZ {Q : Value → Shared → Prop} {l b : Addr} {items items2 : Array Value} {e r : Nat → Bool} (hl : s.heap.IsTuple l items) (hb : s.heap.IsTuple b items2)
    (he : ∀ j (h1 : j < items.size) (h2 : j < items2.size), EqAt A.in1 s items[j] items2[j] (e j)) (hr : ∀ j (h1 : j < items.size) (h2 : j < items2.size), e j = false → RcLt A.in1 s items[j] items2[j] (r j))
    (h : Q (.bool (firstLt e r (decide (items.size < items2.size)) (List.range (min items.size items2.size)))) s) : wpAny (model prog w) A (call (.builtin "tuple.__lt__") [.ref l, .ref b]) Q E s := by
  obtain ⟨⟨cls, dd, data, sl⟩, ho, hc, n, hd⟩ := id hl
  obtain ⟨⟨cls2, dd2, data2, sl2⟩, ho2, hc2, n2, hd2⟩ := id hb
  simp only at hc hd hc2 hd2
  subst hc hd hc2 hd2
  exact call_meets F.slot_tuple_lt ⟨_, ho, rfl⟩ F.entry_tuple_lt (F.args_tuple_lt_2 _ _) (tuple_ltAt l b items items2 n n2 dd dd2 sl sl2 e r) ⟨ho, ho2, he, hr, h⟩
theorem oneLt_tupZ {xs ys : List PyData} {a b : Value} {as bs : List Addr} {Q : Bool → Shared → Prop} (ra : Reads s.heap a (.tuple xs) as) (rb : Reads s.heap b (.tuple ys) bs) (hal : alikeAll xs ys = true)
    (hu : A.units + min (PyData.tuple xs).depth (PyData.tuple ys).depth < cLine) (hq : Q (dataLt (.tuple xs) (.tuple ys)) s) : wpAny (model prog w) A (oneLt' true a b) Q E s := by
  cases ra with
  | @tuple l o vs n _ as₁ h1 h2 h3 h4 =>
    cases rb with
    | @tuple l' o' vs' n' _ bs₁ k1 k2 k3 k4 =>
      have n1 : vs.size = xs.length := by simpa using ReadsAll.length _ _ _ h4
      have n2 : vs'.size = ys.length := by simpa using ReadsAll.length _ _ _ k4
      rw [dataLt_tuple, ← firstLt_toks xs ys hal, ← n1, ← n2] at hq
      rw [oneLt'_eq]
      simp only [if_true]
      refine wpAny_bind (wpAny_cRoomFor (room_here hu) ?_)
      refine wpAny_bind (wpAny_callSpecialIfBound?_slot (T := "tuple") ⟨_, h1, h2⟩ F.slot_tuple_lt (call_tuple_ltZ (e := pairEq xs ys) (r := fun j => dataLt (xs.getD j .none) (ys.getD j .none)) ⟨_, h1, h2, _, h3⟩ ⟨_, k1, k2, _, k3⟩ (fun j j1 j2 => ?_) (fun j j1 j2 hj => ?_) ?_))
      · have := eqAt_alikeAll xs ys A.in1 s vs.toList vs'.toList _ _ h4 k4 hal (room_in hu) j (by simpa using j1) (by simpa using j2)
        simpa using this
      · have := rcLt_alikeAll xs ys A.in1 s vs.toList vs'.toList _ _ h4 k4 hal (room_in hu) j (by simpa using j1) (by simpa using j2) hj
        simpa using this
      · exact wpAny_truthy_bool hq
end
section
variable {M : Model} {A : Around} {E : Value → Shared → Prop} {s : Shared}
def TupAt (h : Heap) (v : Value) (xs : Array Value) : Prop := ∃ a o n, v = .ref a ∧ h.get? a = some o ∧ o.cls = .type "tuple" ∧ o.data = .seq xs n
theorem first_tupZ {v : Value} {xs : Array Value} {Q : Option Value → Shared → Prop} (t : TupAt s.heap v xs) (h : Q xs[0]? s) : wpAny M A (firstOfTuple' v) Q E s := by
  obtain ⟨a, o, n, rfl, ho, hc, hd⟩ := t
  rw [kas_first_eq]
  refine wpAny_bind (Looks.here (show Looks M s.heap (typeOf (.ref a)) o.cls from (Looks.ld ho).andThen .now) ?_)
  rw [hc, if_neg (by first | decide | simp)]
  exact wpAny_bind (listItems_at ho hd (wpAny_pure h))
theorem firsts_anyZ : ∀ (vs : List Value), (∀ v ∈ vs, ∃ xs, TupAt s.heap v xs) → ∃ rs : List (Option Value), ∀ {Q : List (Option Value) → Shared → Prop}, Q rs s → wpAny M A (vs.mapM firstOfTuple') Q E s
  | [], _ => ⟨[], fun h => by rw [List.mapM_nil]; exact wpAny_pure h⟩
  | v :: vs, t => by
    obtain ⟨xs, hx⟩ := t v (.head _)
    obtain ⟨rs, hr⟩ := firsts_anyZ vs fun v hv => t v (.tail _ hv)
    refine ⟨xs[0]? :: rs, fun {Q} h => ?_⟩
    rw [List.mapM_cons]
    exact wpAny_bind (first_tupZ hx (wpAny_bind (hr (Q := fun bs s' => wpAny M A (pure (xs[0]? :: bs)) Q E s') (wpAny_pure h))))
theorem kind_tupZ {v₁ : Value} {rest : List Value} {Q : SortKind → Shared → Prop} (h1 : TupAt s.heap v₁ #[]) (hT : ∀ v ∈ rest, ∃ xs, TupAt s.heap v xs) (h : Q oneType' s) : wpAny M A (keyKind' (v₁ :: rest).toArray) Q E s := by
  obtain ⟨rs, hr⟩ := firsts_anyZ (M := M) (A := A) (E := E) rest hT
  rw [keyKind'_eq, List.mapM_toArray, map_eq_pure_bind]
  refine wpAny_bind (wpAny_bind ?_)
  rw [List.mapM_cons]
  refine wpAny_bind (first_tupZ h1 (wpAny_bind (hr ?_)))
  refine wpAny_pure (wpAny_pure ?_)
  rw [if_neg (by simp), if_neg (by simp)]
  rw [oneTypeOnly'_eq, List.mapM_toArray, map_eq_pure_bind]
  have hty : ∀ v ∈ v₁ :: rest, ∀ (Q' : Value → Shared → Prop), Q' (.type "tuple") s → wpAny M A (typeOf v) Q' E s := fun v hv Q' hq => by
    have ht : ∃ xs, TupAt s.heap v xs := by
      rcases List.mem_cons.mp hv with rfl | hv
      · exact ⟨_, h1⟩
      · exact hT v hv
    obtain ⟨xs, a, o, n, rfl, ho, hc, hd⟩ := ht
    refine Looks.here (show Looks M s.heap (typeOf (.ref a)) o.cls from (Looks.ld ho).andThen .now) ?_
    rw [hc]
    exact hq
  refine wpAny_bind (wpAny_bind (wpAny_bind (kas_mapM (r := .type "tuple") _ hty (wpAny_pure ?_))))
  have hall : ((List.map (fun _ => Value.type "tuple") (v₁ :: rest)).toArray.all fun x => x == Value.type "tuple") = true := by
    simp only [List.all_toArray, List.all_map, List.all_eq_true]
    intro _ _
    rfl
  have h0 : (List.map (fun _ => Value.type "tuple") (v₁ :: rest)).toArray[0]? = some (Value.type "tuple") := by simp
  rw [h0]
  simp only [hall, if_true]
  exact wpAny_pure (wpAny_pure h)
end
section
variable {prog : Program} {w : World} {A : Around} {E : Value → Shared → Prop} {s : Shared}
theorem reads_tupZ {v : Value} {r : List PyData} {as : List Addr} (h : Reads s.heap v (.tuple r) as) : ∃ xs, TupAt s.heap v xs := by
  cases h with
  | @tuple l o vs n _ as₁ h1 h2 h3 h4 => exact ⟨_, l, o, n, rfl, h1, h2, h3⟩
theorem reads_tup0Z {v : Value} {as : List Addr} (h : Reads s.heap v (.tuple []) as) : TupAt s.heap v #[] := by
  cases h with
  | @tuple l o vs n _ as₁ h1 h2 h3 h4 =>
    have n1 : vs.size = 0 := by simpa using ReadsAll.length _ _ _ h4
    obtain rfl : vs = #[] := Array.eq_empty_of_size_eq_zero n1
    exact ⟨l, o, n, rfl, h1, h2, h3⟩
theorem SortsAt.tupZ {vs : List Value} {ds : List PyData} (e : EachIs (fun v d => ∃ as, Reads s.heap v d as) vs (.tuple [] :: ds)) (hal : AllAlike (.tuple [] :: ds)) (ht : ∀ d, d ∈ ds → ∃ r, d = .tuple r) (hu : ∀ d, d ∈ PyData.tuple [] :: ds → A.units + d.depth < cLine) :
    SortsAt prog w A s (dataKind s.heap (.tuple [] :: ds)) vs := by
  have ht2 : ∀ d, d ∈ PyData.tuple [] :: ds → ∃ r, d = .tuple r := fun d hd => by
    rcases List.mem_cons.mp hd with rfl | hd
    · exact ⟨_, rfl⟩
    · exact ht d hd
  refine ⟨fun v hv => ?_, oneType', ?_, fun h2 E Q hq => ?_⟩
  · obtain ⟨d, hd, as, r⟩ := e.left v hv
    exact ⟨_, dataKind_some hal hd r⟩
  · intro E x y a b Q ha hb hq
    obtain ⟨d, as, hd, ra, rfl⟩ := dataKind_inv ha
    obtain ⟨d', as', hd', rb, rfl⟩ := dataKind_inv hb
    have hdd := hal d hd d' hd'
    have hroom : A.units + min d.depth d'.depth < cLine := Nat.lt_of_le_of_lt (Nat.add_le_add_left (Nat.min_le_left _ _) _) (hu d hd)
    obtain ⟨r1, rfl⟩ := ht2 d hd
    obtain ⟨r2, rfl⟩ := ht2 d' hd'
    rw [keyLt'_oneType]
    exact oneLt_tupZ ra rb (by simpa [alike] using hdd) hroom hq
  · cases e with
    | @cons v₁ _ vs _ r1 r2 =>
      obtain ⟨as, r1⟩ := r1
      refine kind_tupZ (reads_tup0Z r1) (fun v hv => ?_) hq
      obtain ⟨d, hd, as, r⟩ := r2.left v hv
      obtain ⟨r', rfl⟩ := ht d hd
      exact reads_tupZ r
end
end PySem.W
namespace PySem.W
open PySem PySem.Calls PyProof.Rows PySem.SeqAt
section
variable {prog : Program} {w : World} {A : Around} {E : Value → Shared → Prop} {s : Shared} {β : Type} {R : Value → β → Prop} {enc : β → PyData} {b0 : β} {bs : List β} {vs : List Value}
theorem sorted_tupZ {l : Addr} {Q : Value → Shared → Prop} (h0 : enc b0 = .tuple []) (ht : ∀ b, b ∈ bs → ∃ r, enc b = .tuple r) (hl : s.heap.IsList l vs.toArray) (e : EachIs R vs (b0 :: bs)) (er : EachIs (fun v b => ∃ as, Reads s.heap v (enc b) as) vs (b0 :: bs)) (hal : AllAlike ((b0 :: bs).map enc)) (hL : (b0 :: bs).length ≤ sizeLine)
    (hu : ∀ b, b ∈ b0 :: bs → A.units + 2 + (enc b).depth < cLine) (h : ∀ out, out.length = (b0 :: bs).length → EachIs R out ((b0 :: bs).mergeSort (dataLe false enc)) → Q (.ref (s.heap.objs.size + 1)) { s with heap := sortedAll s.heap vs (List.toArray out) }) :
    wpAny (model prog w) A (call (.builtin "sorted") [.ref l]) Q E s := by
  have er' : EachIs (fun v b => ∃ as, Reads (sortingHeap (copyHeap s.heap vs) (s.heap.objs.size + 1) vs) v (enc b) as) vs (b0 :: bs) := er.mono fun _ _ ⟨as, r⟩ => ⟨as, PyProof.Rows.Reads.keeps (fun _ _ => sorting_copy_old) r⟩
  have em := each_map (R := fun v d => ∃ as, Reads (sortingHeap (copyHeap s.heap vs) (s.heap.objs.size + 1) vs) v d as) enc er'
  have bm := bound_map (A := A.in1.in1) (enc := enc) (bs := b0 :: bs) hu
  have hal2 := hal
  rw [List.map_cons, h0] at em bm hal2
  refine sorted_vals (κ := dataKind (sortingHeap (copyHeap s.heap vs) (s.heap.objs.size + 1) vs) ((b0 :: bs).map enc)) hl ?_ (by rw [e.length]; exact hL) (h _ (by rw [sortVals_length false rfl]; exact e.length) (sortVals_data false e er' hal))
  rw [List.map_cons, h0]
  refine SortsAt.tupZ (s := { s with heap := sortingHeap (copyHeap s.heap vs) (s.heap.objs.size + 1) vs }) em hal2 (fun d hd => ?_) bm
  obtain ⟨b, hb, rfl⟩ := List.mem_map.mp hd
  exact ht b hb
end
end PySem.W
namespace L2
open PySem PySem.Spec PyProof.Rows PySem.W
section
variable {X : Cx} {pins : List (Addr × Obj)} {σ : St} {H : Hp} {s : Shared}
/-- sorted(xs): the items ascending as tuples are -/
def rSortT0 (K : PySem.W.Frag) : List V → Hp → VK → Prop := fun vs H Q => ∃ (a : Addr) (xs : List V) (bs : List (List Int)), vs = [V.ref a] ∧ SqL K H a xs ∧ Paired (TupI K H) xs ([] :: bs) ∧
  ∀ (ys : List V) (p : Addr), Paired (TupI K H) ys (([] :: bs).mergeSort fun p q => decide (p ≤ q)) → H p = none → Q (.ref p) (upd H p (.lst ys))
theorem cr_sortT0 (hu : X.A.units + 65 < cLine) : CallR X (.builtin "sorted") (rSortT0 X.K) := by
  intro pins s σ H vs us Q I r h
  obtain ⟨a, xs, bs, rfl, hs, hp, q⟩ := h
  obtain ⟨its, rv, hl, hz⟩ := I.list hs
  rw [Vals.ref1 r]
  have e0 : EachIs (TupV X.K H) its ([] :: bs) := tupV_of hp rv
  have hlen : ([] :: bs).length = xs.length := (Paired.length hp).symm
  refine sorted_tupZ (A := X.A) (R := TupV X.K H) (enc := tupE) rfl (fun b _ => ⟨_, rfl⟩) hl.isList e0 (e0.mono fun u ns h => tupV_reads I h) (AllAlike.of fun b b' => by simp [alike, alike_ints]) (by rw [hlen]; exact hz) (fun b _ => ?_) fun out ho eo => ?_
  · have : (tupE b).depth ≤ 1 := by simp [PyData.depth, depth_ints]
    omega
  · rw [tupE_le] at eo
    obtain ⟨e1, e2⟩ := tupV_to eo
    obtain ⟨ep, he'⟩ := PyProof.Rows.sortedAll_at s.heap its out.toArray
    have hz2 : (out.map bkV).length ≤ sizeLine := by
      rw [List.length_map, ho, hlen]
      exact hz
    exact ⟨.ref _, upd H (s.heap.objs.size + 1) (.lst (out.map bkV)), I.laid (t' := s.toks) (fun _ _ => PyProof.Rows.sortedAll_old) (Nat.le_succ _) ⟨hz2, out, ep, bkV_vals e2, he'⟩, rfl, q _ _ e1 (I.hok.fresh (Nat.le_succ _))⟩
end
end L2

set_option Elab.async false
set_option linter.all false
set_option maxRecDepth 100000
set_option maxHeartbeats 4000000
/-! o.m(e, .., k = v, ..); an expression read in one of two ways -/
namespace L2
open PySem PySem.Spec PyProof.Rows PySem.W
/-- a method with keywords -/
def tMethN (C : Addr) (m : Str) (n j : Nat) (sp : Sp) (gV : List V → List V → List V) (E : XK) (ta : TE) (t tk : TA) : TE := fun σ H Q => ta σ H fun x H1 => ∃ a dx fs, x = .ref a ∧ H1 a = some (.ins C dx fs) ∧ fs.lookup m = none ∧
  t σ H1 fun vs H2 => tk σ H2 fun zs H3 => vs.length = n ∧ zs.length = j ∧ sp (gV (x :: vs) zs) H3 Q E
section
variable {X : Cx} {CX : CXT} {k n : Nat} {f C : Addr} {fd : FuncData} {ps ks : List Str} {sp : Sp} {E : XK} {m : Str} {pos apos : Pos} {e o : Expr} {es : List Expr} {kws : List Keyword} {ta : TE} {t tk : TA} {g : List Value → List Value → List Value} {gV : List V → List V → List V}
theorem pe_methN {pl : Sem Bool} (he : PE X o ta) (c : Cls X.K C) (hm : Meth X.K C m f) (F : FnOk X.prog X.w X.K X.mg X.base CX k f fd ps sp) (hr : Room k X.A) (hb : KBn X.K fd ps (n + 1) ks g gV) (hx : Passes CX X E) (ha : PA X (e :: es) t) (hkw : PK X kws tk)
    (hall : (backToKw pos (keywordEach kws X.env)).all (·.1.isSome) = true := by rfl) (hks : (backToKw pos (keywordEach kws X.env)).filterMap (·.1) = ks := by rfl)
    (hst : starEach (e :: es) X.env = (false, eval e X.env) :: starEach es X.env := by rfl) (hpl : ((backTo pos (starEach (e :: es) X.env)).any (·.1) || (backToKw pos (keywordEach kws X.env)).any (·.1.isNone)) = false := by rfl)
    (ht : eval (.Call (.Attribute o m apos) (e :: es) kws pos) X.env = (do
      let ov ← eval o X.env
      standAt apos.atName
      let (f, first) ← holding [ov] (getMethod ov m pl)
      callWith pos f first (backTo pos (starEach (e :: es) X.env)) (backToKw pos (keywordEach kws X.env))) := by rfl) :
    PE X (.Call (.Attribute o m apos) (e :: es) kws pos) (tMethN C m n ks.length sp gV E ta t tk) := by
  refine ⟨fun pins s σ H Q I h => ?_⟩
  refine PySem.W.methodCall_KW (pl := pl) (thn (he.run pins s σ H _ I h) fun u s1 ⟨x, H1, I1, rx, a, dx, fs, ex, ea, l, q⟩ => ?_) ht
  subst ex
  obtain rfl : u = Value.ref a := rx
  refine getmeth_ok I1 ea c hm l ?_
  refine PySem.W.callWith_KW (first := [.ref a]) (h₀ := X.base) I.ok.mod.kin hm.kp hall (thn (ha.run pos pins s1 σ H1 _ I1 q) fun us s2 ⟨vs, H2, I2, r, q2⟩ => ?_) hpl hst
  refine thn (hkw.run pos pins s2 σ H2 _ I2 q2) fun ws s3 ⟨zs, H3, I3, rz, l1, l2, q3⟩ => ⟨I3.kIn, ?_⟩
  rw [hks]
  exact run_fnN (us := .ref a :: us) (vs := .ref a :: vs) F hr hb hx I3 (.cons rfl r) rz (by rw [List.length_cons, l1]) l2 q3
/-- an expression that may be read in two ways -/
theorem pe_two {a : Expr} {t1 t2 : TE} (h1 : PE X a t1) (h2 : PE X a t2) : PE X a (fun σ H Q => t1 σ H Q ∨ t2 σ H Q) :=
  ⟨fun pins s σ H Q I h => h.elim (h1.run pins s σ H Q I) (h2.run pins s σ H Q I)⟩
end
end L2

set_option Elab.async false
set_option linter.all false
set_option maxRecDepth 100000
set_option maxHeartbeats 4000000
/-! zip over two tuples, as a walk; != of own objects of two classes -/
namespace L2
open PySem PySem.Spec PyProof.Rows
theorem walk_zipT {K : PySem.W.Frag} {a b : Addr} {xs ys : List V} {n : Nat} (hn : n = min xs.length ys.length) : Walk (RZ.ItzT K a b) n (fun H => SqT K H a xs ∧ SqT K H b ys) (YPair (fun i => xs[i]?) (fun i => ys[i]?)) := by
  subst hn
  refine ⟨fun i _ hi q => ?_, fun _ q => ⟨xs, ys, q.1, q.2, by omega⟩, fun i H v H' _ q y => ?_⟩
  · have h1 : i < xs.length := by omega
    have h2 : i < ys.length := by omega
    exact ⟨xs, ys, xs[i], ys[i], q.1, q.2, by simp [h1], by simp [h2]⟩
  · obtain ⟨T, x, z, h1, h2, h3, h4, h5⟩ := y
    exact ⟨T, x, z, h1, h2, h3, h4 xs q.1, h5 ys q.2⟩
end L2
namespace Tw
open PySem PySem.Spec PyProof.Rows L2
open PySem.W (InstAt looks_findIn looks_subIn ifBound_K cmp_K)
section
variable {X : Cx} {CX : CXT} {k : Nat} {f C D : Addr} {fd : FuncData} {ps : List Str} {sp : Sp} {E : XK}
/-- != where the other one is an object of another class -/
def rNeD (C D : Addr) (sp : Sp) (E : XK) : R2 := fun x y H Q =>
  ∃ a dx fs b dy gs, x = .ref a ∧ H a = some (.ins C dx fs) ∧ y = .ref b ∧ H b = some (.ins D dy gs) ∧ sp [.ref a, y] H (fun v H' => ∃ r, v = .bl r ∧ Q (.bl (!r)) H') E
theorem op_ne_two (c : EqC X.K C f) (hd : PySem.W.notFirst X.K C (.ref D) = true) (F : FnOk X.prog X.w X.K X.mg X.base CX k f fd ps sp) (hr : Room (k + 1) X.A) (hb : Binds X.K fd ps []) (hx : Passes CX X E) : OpR X (compareOp .NotEq) (rNeD C D sp E) := by
  intro pins s σ H x y v u Q I rx ry ⟨a, dx, fs, b, dy, gs, ex, ha, ey, hb2, q⟩
  subst ex
  subst ey
  obtain rfl : v = Value.ref a := rx
  obtain rfl : u = Value.ref b := ry
  obtain ⟨mA, O, rr, _, _, _⟩ := ins_get I.hok ha
  obtain ⟨od, J, hl⟩ := O.look
  obtain ⟨mB, OB, rrB, _, _, _⟩ := ins_get I.hok hb2
  obtain ⟨odB, JB, hlB⟩ := OB.look
  obtain ⟨m0, hF⟩ := I.fr
  show wpAny _ _ (richCompare .NotEq (.ref a) (.ref b)) _ _ _
  refine ne_K (Room.units0 hr.in1) hr.units0 hF I.ok.mod.kin J JB.type hd c (thn (run_sub F (Sub.in1 ⟨hr, rfl⟩) hb hx I (.cons (relR a) (.cons (relR b) .nil)) q) fun r s' ⟨z, H', I', rz, b2, ez, q'⟩ => ?_)
  subst ez
  exact ⟨b2, rz, _, H', I', relB (!b2), q'⟩
end
end Tw

set_option Elab.async false
set_option linter.all false
set_option maxRecDepth 100000
set_option maxHeartbeats 2000000
/-! own rules: xs.count(k), t.count(k) (whole numbers); sum(d.values()) -/
namespace L2
open PySem PySem.Spec PyProof.Rows L2
theorem plain_ints : ∀ ns : List Int, PyData.plainAll (ns.map PyData.int) = true
  | [] => rfl
  | n :: ns => by
    simp only [List.map_cons, PyData.plainAll, plain_ints ns]
    rfl
theorem count_ints (k : Int) : ∀ ns : List Int, (ns.map PyData.int).countP (fun y => PyData.eqv y (.int k)) = ns.count k
  | [] => rfl
  | n :: ns => by
    rw [List.map_cons, List.countP_cons, count_ints k ns, List.count_cons]
    have e : PyData.eqv (.int n) (.int k) = (n == k) := rfl
    rw [e]
theorem dpAll_ints (K : PySem.W.Frag) (H : Hp) : ∀ ns : List Int, DpAll K H (ns.map V.int) (ns.map PyData.int)
  | [] => .nil
  | n :: ns => .cons (.int n) (dpAll_ints K H ns)
section
variable {X : Cx}
def rCountL (K : PySem.W.Frag) : V → List V → Hp → VK → Prop := fun x vs H Q => ∃ (a : Addr) (ns : List Int) (k : Int), x = .ref a ∧ vs = [.int k] ∧ SqL K H a (ns.map V.int) ∧ Q (.int (ns.count k : Nat)) H
def rCountT (K : PySem.W.Frag) : V → List V → Hp → VK → Prop := fun x vs H Q => ∃ (a : Addr) (ns : List Int) (k : Int), x = .ref a ∧ vs = [.int k] ∧ SqT K H a (ns.map V.int) ∧ Q (.int (ns.count k : Nat)) H
theorem mt_countL (hu : X.A.units + 65 < cLine) : MtR X "list.count" (rCountL X.K) := by
  intro pins s σ H x xs v us Q I rx rxs h
  obtain ⟨a, ns, k, rfl, rfl, hl, q⟩ := h
  cases rx
  cases rxs with
  | cons ry rt =>
    rename_i uy ut
    cases rt
    obtain ⟨its, rv, pl, hlen⟩ := I.list hl
    obtain ⟨as, h4⟩ := Dp.readsAll I (ns.map PyData.int) _ its (dpAll_ints _ _ ns) rv
    obtain ⟨bs, r1⟩ := Dp.reads I (.int k) _ uy (.int k) ry
    refine PySem.SeqAt.count_list_data (xs := ns.map PyData.int) (d := .int k) pl.isList h4 r1 (plain_ints ns) rfl (Nat.lt_of_le_of_lt (Nat.add_le_add_left (Nat.min_le_right _ _) _) (by simp only [PyData.depth]; omega)) ?_
    rw [count_ints]
    exact ⟨.int _, H, I.tok _, ⟨_, rfl⟩, q⟩
theorem mt_countT (hu : X.A.units + 65 < cLine) : MtR X "tuple.count" (rCountT X.K) := by
  intro pins s σ H x xs v us Q I rx rxs h
  obtain ⟨a, ns, k, rfl, rfl, hl, q⟩ := h
  cases rx
  cases rxs with
  | cons ry rt =>
    rename_i uy ut
    cases rt
    obtain ⟨its, rv, pl, hlen⟩ := I.tuple hl
    obtain ⟨as, h4⟩ := Dp.readsAll I (ns.map PyData.int) _ its (dpAll_ints _ _ ns) rv
    obtain ⟨bs, r1⟩ := Dp.reads I (.int k) _ uy (.int k) ry
    refine PySem.SeqAt.count_tuple_data (xs := ns.map PyData.int) (d := .int k) pl h4 r1 (plain_ints ns) rfl (Nat.lt_of_le_of_lt (Nat.add_le_add_left (Nat.min_le_right _ _) _) (by simp only [PyData.depth]; omega)) ?_
    rw [count_ints]
    exact ⟨.int _, H, I.tok _, ⟨_, rfl⟩, q⟩
theorem preSum_list : ∀ (is : List Int) (n : Nat), preSum (fun i => is.getD i 0) n = (is.take n).sum := by
  intro is n
  induction n with
  | zero => rfl
  | succ n ih =>
    rw [preSum, ih]
    by_cases h : n < is.length
    · rw [← List.take_append_getElem h, List.sum_append, List.getD_eq_getElem?_getD, List.getElem?_eq_getElem h]
      simp
    · rw [List.take_of_length_le (by omega), List.take_of_length_le (by omega), List.getD_eq_getElem?_getD, List.getElem?_eq_none (by omega)]
      simp
/-- sum(o.values()), a dict with int values -/
def tSumVals (td : TE) : TE := fun σ H Q => td σ H fun x H1 => ∃ (a : Addr) (kvs : List (Key × V)) (is : List Int), x = V.ref a ∧ H1 a = some (.dK kvs) ∧ kvs.map (·.2) = is.map V.int ∧ Q (.int is.sum) H1
variable {o : Expr} {p pos apos mpos : Pos} {td : TE}
theorem pe_sumVals (hc : X.calm = true) (hg : Gl X "sum") (hm : X.mg "sum" = none) (hd : PE X o td) (hbase : attributeBase o "values" X.env (eval o X.env) = eval o X.env := by rfl) (hline : (apos.endLine == mpos.line) = true := by rfl)
    (hse : starEach [Expr.Call (.Attribute o "values" apos) [] [] mpos] X.env = [(false, eval (Expr.Call (.Attribute o "values" apos) [] [] mpos) X.env)] := by rfl) :
    PE X (.Call (.Name "sum" p) [.Call (.Attribute o "values" apos) [] [] mpos] [] pos) (tSumVals td) := by
  refine ⟨fun pins s σ H Q I h => ?_⟩
  refine wpAny_Call_Name_kw (ld_blt I hg hm (u := .builtin "sum") (by first | rfl | decide +kernel) ?_ (by first | decide +kernel | decide) (by first | decide +kernel | decide))
  rw [hse]
  refine PySem.callWith_builtin1 (wpAny_Call_method0_late hbase hline (thn (hd.run pins s σ H _ I h) fun v s1 ⟨x, H1, I1, r1, a, kvs, is, ex, ha, hv, q⟩ => ?_))
  subst ex
  obtain rfl : v = Value.ref a := r1
  obtain ⟨_, hsys, vs, rel, dof⟩ := dk_of I1.hok ha
  obtain ⟨ep, dat⟩ := dof.dictAt
  have dat' := dat
  obtain ⟨ob, es, ho, ex, hdat, hko, hpr, hnd⟩ := dat'
  refine ⟨"dict", "dict.values", F.plainAttrs_dict, F.slot_dict_values, F.type_dict_values, ⟨ob, ho, ex.1⟩, fun b e => ?_, Calls.callWith_builtin rfl (PySem.evalArgs_none ?_)⟩
  · cases e
    exact ⟨ob, ho, ex.2.1⟩
  refine call_meetsIn F.slot_dict_values ⟨ob, ho, ex.1⟩ F.entry_dict_values (F.args_dict_values_1 _) (meets_dict_values (mixKind X.prog X.w) a hsys) ⟨⟨vs, dof⟩, ?_⟩
  have k1 : ∀ b u, s1.heap.get? b = some u → (s1.heap.push { cls := .type "dict_values", data := .fields #[.ref a] }).get? b = some u := fun b u e => Heap.get?_push_of_some _ e
  have dat1 : (s1.heap.push { cls := .type "dict_values", data := .fields #[.ref a] }).DictAt (mixKind X.prog X.w) a vs ep := dat.keep k1
  have hlv : vs.length = is.length := by
    have e1 := congrArg List.length hv
    rw [List.length_map, List.length_map] at e1
    rw [← e1]
    exact (KV.length rel).symm
  have hval : ∀ (i : Nat) (v : Value), (∃ k, vs[i]? = some (k, v)) → ∃ t, v = Value.int (is.getD i 0) t := fun i v ⟨k, hk⟩ => by
    obtain ⟨x, h1, h2⟩ := KV.at' rel hk
    have e1 : (kvs.map (·.2))[i]? = some x := by rw [List.getElem?_map, h1] <;> rfl
    rw [hv, List.getElem?_map] at e1
    obtain ⟨j, hj, e2⟩ := Option.map_eq_some_iff.mp e1
    subst e2
    obtain ⟨t, e3⟩ := h2
    refine ⟨t, ?_⟩
    rw [e3, List.getD_eq_getElem?_getD, hj] <;> rfl
  refine call_sum_walkG (wpAny_pyIter_values (v := s1.heap.objs.size) (d := a) ⟨_, Heap.get?_push_size _ rfl, rfl, rfl⟩ dat1 ?_)
  have hlt : a < s1.heap.objs.size := Heap.lt_size ho
  have hsz : (s1.heap.push { cls := .type "dict_values", data := .fields #[.ref a] }).objs.size = s1.heap.objs.size + 1 := Heap.size_push _ _
  refine ⟨_, _, _, _, _, _, fun i => is.getD i 0, rfl, Walks.dictValues (knd := mixKind X.prog X.w) (A := X.A.in1) (I.ok.hd hc) (s1.heap.push { cls := .type "dict_values", data := .fields #[.ref a] }).objs.size a (by rw [hsz]; exact Nat.ne_of_lt (Nat.lt_succ_of_lt hlt)) vs ep,
    ⟨⟨_, Heap.get?_push_size _ rfl, rfl, rfl⟩, dat1.keep fun b u e => Heap.get?_push_of_some _ e⟩, fun b hb => ?_, hval, fun h' tk t' hk => ?_⟩
  · show b < ((s1.heap.push _).push _).objs.size
    rw [Heap.size_push, Heap.size_push]
    rw [hsz] at hb
    rcases List.mem_cons.mp hb with e | hb
    · rw [e]
      exact Nat.lt_succ_self _
    · have e : b = a := List.mem_singleton.mp hb
      rw [e]
      exact Nat.lt_succ_of_lt (Nat.lt_succ_of_lt hlt)
  · rw [preSum_list, hlv, List.take_length]
    refine ⟨.int _, H1, I1.kept (t' := tk) fun b u e => hk b u (fun hmem => ?_) (Heap.get?_push_of_some _ (k1 b u e)), ⟨t', rfl⟩, q⟩
    have e1 : b = (s1.heap.push { cls := .type "dict_values", data := .fields #[.ref a] }).objs.size := List.mem_singleton.mp hmem
    have e2 := Heap.lt_size e
    rw [hsz] at e1
    rw [e1] at e2
    exact absurd e2 (Nat.not_lt.mpr (Nat.le_succ _))
end
/-- a dict by a comprehension, over any walk -/
theorem dc_it {J : It} {n : Nat} {G : Hp → Prop} {Y : Nat → Hp → V → Hp → Prop} (w : Walk J n G Y) {g : TG} {tt : TT} {tk tv : TE} {vs : List Nat} {σ : St} {H1 : Hp} {D : Addr} {Qd : Hp → Prop} (Pv : Nat → Hp → Prop) (h0 : Pv 0 (upd H1 D (.dK []))) (hG : ∀ i H, i ≤ n → Pv i H → G H)
    (hs : ∀ i x H H', i < n → Pv i H → Y i H x H' → g x (wipe σ vs) H' fun σ2 H2 => wipe σ2 vs = wipe σ vs ∧ tt σ2 H2 fun b H3 =>
      if b = true then tk σ2 H3 fun y H4 => tv σ2 H4 fun z H5 => ∃ kvs k, y = kV k ∧ H5 D = some (.dK kvs) ∧ kvs.length < sizeLine ∧ Pv (i + 1) (upd H5 D (.dK (putK kvs k z))) else Pv (i + 1) H3) (hd : ∀ H, Pv n H → Qd H) :
    ∃ W : Nat → Nat → Hp → Prop, (∃ m, W 0 m (upd H1 D (.dK []))) ∧ ∀ i m H, W i m H →
      (J.stop i H ∧ Qd H) ∨ (J.go i H ∧ ∃ Nx : Hp → Prop, (∀ H', Nx H' → ∃ m', m' < m ∧ W (i + 1) m' H') ∧ ∀ x H', J.yld i H x H' → g x (wipe σ vs) H' fun σ2 H2 => wipe σ2 vs = wipe σ vs ∧ tt σ2 H2 fun b H3 =>
        if b = true then tk σ2 H3 fun y H4 => tv σ2 H4 fun z H5 => ∃ kvs k, y = kV k ∧ H5 D = some (.dK kvs) ∧ kvs.length < sizeLine ∧ Nx (upd H5 D (.dK (putK kvs k z))) else Nx H3) := by
  refine ⟨fun i m H => m = n - i ∧ i ≤ n ∧ Pv i H, ⟨n, by simp, Nat.zero_le _, h0⟩, ?_⟩
  rintro i m H ⟨rfl, hi, p⟩
  have q := hG i H hi p
  by_cases hlt : i < n
  · refine .inr ⟨w.goes i H hlt q, Pv (i + 1), fun H' p' => ⟨n - (i + 1), by omega, rfl, hlt, p'⟩, fun x H' y => hs i x H H' hlt p (w.yields i H x H' hlt q y)⟩
  · have e : i = n := by omega
    subst e
    exact .inl ⟨w.stops H q, hd H p⟩
/-- what stays while a thing is locked stays behind -/
theorem same_lock {H H' : Hp} {d : Addr} {u v : HO} (h : H d = some u) (s : Same (upd H d v) H') : Same H (upd H' d u) := fun b o e => by
  by_cases hb : b = d
  · subst hb
    rw [upd_same, ← h, e]
  · rw [upd_ne hb]
    exact s b o (by rw [upd_ne hb]; exact e)
theorem ite_b {b c : Bool} {A B : Prop} (h : b = c) (k : if c = true then A else B) : if b = true then A else B := h ▸ k
/-- set(xs), xs a list or a tuple of whole numbers -/
def rSetSq (K : PySem.W.Frag) (w : World) : List V → Hp → VK → Prop := fun xs H Q => ∃ (l : Addr) (ns : List Int), xs = [V.ref l] ∧ (SqL K H l (ns.map V.int) ∨ SqT K H l (ns.map V.int)) ∧ ns.length ≤ 1000 ∧ ∀ p n, n ≤ ns.length → H p = none → Q (.ref p) (upd H p (SetO w p (fun j => decide (j ∈ ns)) n))
theorem cr_setSq {X : Cx} (hc : X.calm = true) : CallR X (.type "set") (rSetSq X.K X.w) := by
  intro pins s σ H vs us Q I rv ⟨l, ns, e, h, hl, q⟩
  rcases h with h | h
  · exact cr_setLI hc pins s σ H vs us Q I rv ⟨l, ns, e, h, hl, q⟩
  · exact cr_setTI hc pins s σ H vs us Q I rv ⟨l, ns, e, h, hl, q⟩
end L2

set_option Elab.async false
set_option linter.all false
set_option maxRecDepth 100000
set_option maxHeartbeats 2000000
/-! own rules: tuples of which it is known that they have no dict of their own: their methods -/
namespace L2
open PySem PySem.Spec PyProof.Rows L2
/-- a tuple that was made by tuple(..), with the object that it is -/
def TupF (H : Hp) (a : Addr) (xs : List V) : Prop := ∃ o : Obj, H a = some (.frz o (.tup xs)) ∧ o.dict = none
theorem TupF.same {H H' : Hp} {a : Addr} {xs : List V} (h : TupF H a xs) (s : Same H H') : TupF H' a xs := let ⟨o, e, d⟩ := h; ⟨o, s _ _ e, d⟩
theorem TupF.sq {K : PySem.W.Frag} {H : Hp} {a : Addr} {xs : List V} (h : TupF H a xs) : SqT K H a xs := let ⟨o, e, _⟩ := h; .inl (.inr ⟨o, e⟩)
section
variable {X : Cx}
/-- tuple(xs) of a list; of such a tuple itself -/
def rTupF (K : PySem.W.Frag) : List V → Hp → VK → Prop := fun xs H Q => ∃ p ys, xs = [V.ref p] ∧ ((SqL K H p ys ∧ ∀ l o, H l = none → o.dict = none → Q (.ref l) (upd H l (.frz o (.tup ys)))) ∨ (SqT K H p ys ∧ Q (.ref p) H))
theorem call_tupF : CallR X (.type "tuple") (rTupF X.K) := by
  intro pins s σ H xs us Q I r h
  obtain ⟨p, ys, rfl, h⟩ := h
  rcases h with ⟨hq, q⟩ | ⟨hq, q⟩
  · obtain ⟨u, rfl, rx⟩ := vals1 r
    cases rx
    obtain ⟨its, r', pl, hz⟩ := I.list hq
    have hlen := r'.length
    refine call_tuple_list pl.isList (fun h' kp => ?_) (by simp only [List.size_toArray] <;> omega)
    have I1 : Inv X pins σ H { s with heap := h' } := I.kept (t' := s.toks) kp
    have I2 : Inv X pins σ (upd H h'.objs.size (.frz { cls := .type "tuple", data := .seq its.toArray } (.tup ys))) { s with heap := h'.push { cls := .type "tuple", data := .seq its.toArray } } :=
      I1.laid (t' := s.toks) (fun b o e => Heap.get?_push_of_some _ e) (Nat.le_refl _) (show ObjOk X.prog X.w _ _ _ (.frz _ (.tup ys)) from ⟨Heap.get?_push_size _ rfl, hz, its, r', IsTup.new _ _⟩)
    exact ⟨.ref h'.objs.size, _, I2, rfl, q _ _ (I1.hok.fresh (Nat.le_refl _)) rfl⟩
  · exact call_tuple_of pins s σ H _ us Q I r ⟨p, ys, rfl, .inr ⟨hq, q⟩⟩
def tBMF (r : V → List V → Hp → VK → Prop) (to : TE) (t : TA) : TE := fun σ H Q => to σ H fun x H1 => (∃ a xs, x = .ref a ∧ TupF H1 a xs) ∧ t σ H1 fun xs H2 => r x xs H2 Q
variable {o e : Expr} {es : List Expr} {to : TE} {t : TA} {name : Str} {apos cpos : Pos} {T id : String} {r : V → List V → Hp → VK → Prop}
theorem pe_bmF (slot : Slot "tuple" name id) (hty : typeOf (.builtin id) = pure (.type "method_descriptor")) (hm : MtR X id r) (ho : PE X o to) (ha : PA X (e :: es) t)
    (hbase : attributeBase o name X.env (eval o X.env) = eval o X.env := by rfl)
    (hfew : ((backTo cpos (starEach (e :: es) X.env)).all (fun x => !x.1) && (backToKw cpos (keywordEach [] X.env)).all (fun x => x.1.isSome)
      && decide ((e :: es).length + ([] : List Keyword).length + (if ([] : List Keyword).isEmpty then 0 else 1) < 30)) = true := by rfl)
    (hline : (apos.endLine == cpos.line) = true := by rfl) (hs : starEach (e :: es) X.env = (false, eval e X.env) :: starEach es X.env := by rfl) (hplain : (backTo cpos (starEach es X.env)).any (·.1) = false := by rfl) :
    PE X (.Call (.Attribute o name apos) (e :: es) [] cpos) (tBMF r to t) := by
  refine ⟨fun pins s σ H Q I h => ?_⟩
  refine wpAny_Call_method_late hbase hfew hline rfl (thn (ho.run pins s σ H _ I h) fun v s1 ⟨x, H1, I1, r1, ty, q1⟩ => ?_)
  obtain ⟨a, xs, rfl, oo, ho2, hd⟩ := ty
  cases r1
  obtain ⟨g1, g2⟩ := I1.hok a _ ho2
  obtain ⟨hz, its, rv, hit⟩ := g2
  obtain ⟨o2, e2, hc, n2, hdat⟩ := hit
  rw [g1] at e2
  cases e2
  refine ⟨"tuple", id, F.plainAttrs_tuple, slot, hty, ⟨_, g1, hc⟩, fun b eb => ?_, ?_⟩
  · cases eb
    exact ⟨_, g1, hd⟩
  have hA := ha.run cpos pins s1 σ H1 _ I1 q1
  rw [hs] at hA ⊢
  refine Calls.callWith_builtin (by show (false || (backTo cpos (starEach es X.env)).any (·.1)) = false; rw [hplain] <;> rfl) (Calls.evalArgs_plain ?_)
  exact thn hA fun us s2 ⟨vs, H2, I2, r2, q2⟩ => hm pins s2 σ H2 (.ref a) vs _ us Q I2 (show RelV (.ref a) (Value.ref a) from rfl) r2 q2
theorem lay_ints : ∀ ns : List Int, PyData.canLayAll0 (ns.map PyData.int) = true
  | [] => rfl
  | n :: ns => by
    rw [List.map_cons, PyData.canLayAll0, lay_ints ns]
    rfl
/-- t.index(k), whole numbers, k there -/
def rIndexT (K : PySem.W.Frag) : V → List V → Hp → VK → Prop := fun x vs H Q => ∃ (a : Addr) (ns : List Int) (k : Int) (j : Nat), x = .ref a ∧ vs = [.int k] ∧ SqT K H a (ns.map V.int) ∧ ns[j]? = some k ∧ (∀ m, m < j → ns[m]? ≠ some k) ∧ Q (.int (j : Nat)) H
theorem mt_indexTI (hu : X.A.units + 65 < cLine) : MtR X "tuple.index" (rIndexT X.K) := by
  intro pins s σ H x xs v us Q I rx rxs h
  obtain ⟨a, ns, k, j, rfl, rfl, hl, hj, hno, q⟩ := h
  cases rx
  cases rxs with
  | cons ry rt =>
    rename_i uy ut
    cases rt
    obtain ⟨its, rv, pl, hlen⟩ := I.tuple hl
    obtain ⟨as, h4⟩ := Dp.readsAll I (ns.map PyData.int) _ its (dpAll_ints _ _ ns) rv
    obtain ⟨bs, r1⟩ := Dp.reads I (.int k) _ uy (.int k) ry
    have hjl := (List.getElem?_eq_some_iff.mp hj).1
    have hvl := rv.length
    rw [List.length_map] at hvl hlen
    obtain ⟨⟨cls, dd, data, sl⟩, ho, hc, n, hd'⟩ := id pl
    simp only at hc hd'
    subst hc hd'
    have hxs : PyData.canLayAll0 (ns.map PyData.int) = true := lay_ints ns
    have hmap : its.map (SeqAt.readOf s.heap) = ns.map PyData.int := SeqAt.readsAll_map _ its as hxs h4
    have at_ : ∀ (m : Nat) (hm : m < its.toArray.size) (z : Int), ns[m]? = some z → SeqAt.readOf s.heap its.toArray[m] = .int z := by
      intro m hm z hz
      have hml : m < its.length := by simpa using hm
      have e1 : (its.map (SeqAt.readOf s.heap))[m]? = some (.int z) := by rw [hmap, List.getElem?_map, hz]; rfl
      rw [List.getElem?_map, List.getElem?_eq_getElem hml] at e1
      have e2 : SeqAt.readOf s.heap its[m] = .int z := Option.some.inj e1
      simpa using e2
    have hj2 : j < its.toArray.size := by simp only [List.size_toArray]; omega
    refine call_meets F.slot_tuple_index ⟨_, ho, rfl⟩ F.entry_tuple_index (F.args_tuple_index_2 _ _)
      (TI.tuple_indexAt a its.toArray n dd sl uy (fun u => PyData.eqv (SeqAt.readOf s.heap u) (.int k)) j hj2 ?_ ?_) ⟨ho, SeqAt.items_eqAt (vs := its.toArray) (show ReadsAll s.heap its.toArray.toList (ns.map PyData.int) as from h4) r1 hxs rfl (Nat.lt_of_le_of_lt (Nat.add_le_add_left (Nat.min_le_right _ _) _) (by simp only [PyData.depth]; omega)), ?_⟩
    · show PyData.eqv (SeqAt.readOf s.heap its.toArray[j]) (.int k) = true
      rw [at_ j hj2 k hj]
      show (k == k) = true
      exact beq_self_eq_true k
    · intro m hm hmj
      have hmn : m < ns.length := by simp only [List.size_toArray] at hm; omega
      have hz : ns[m]? = some ns[m] := List.getElem?_eq_getElem hmn
      show PyData.eqv (SeqAt.readOf s.heap its.toArray[m]) (.int k) = false
      rw [at_ m hm _ hz]
      show (ns[m] == k) = false
      exact beq_eq_false_iff_ne.mpr fun z => hno m hmj (by rw [hz, z])
    · exact ⟨.int (j : Nat), H, I.tok _, ⟨_, rfl⟩, q⟩
/-- x.count(y), two names, x a list or a known tuple of whole numbers -/
def tCnt (K : PySem.W.Frag) (i j : Nat) : TE := fun σ H Q => ∃ (a : Addr) (ns : List Int) (k : Int), σ[i]? = some (some (.ref a)) ∧ σ[j]? = some (some (.int k)) ∧ (SqL K H a (ns.map V.int) ∨ TupF H a (ns.map V.int)) ∧ Q (.int (ns.count k : Nat)) H
theorem pe_cnt {e : Expr} {i j : Nat} (h1 : PE X e (tBM X.K "list" (rCountL X.K) (tVar i) (tCons (tVar j) tNil))) (h2 : PE X e (tBMF (rCountT X.K) (tVar i) (tCons (tVar j) tNil))) : PE X e (tCnt X.K i j) := by
  refine ⟨fun pins s σ H Q I h => ?_⟩
  obtain ⟨a, ns, k, e1, e2, h, q⟩ := h
  rcases h with h | h
  · exact h1.run pins s σ H Q I ⟨_, e1, .inl ⟨rfl, _, h⟩, _, e2, a, ns, k, rfl, rfl, h, q⟩
  · exact h2.run pins s σ H Q I ⟨_, e1, ⟨a, _, rfl, h⟩, _, e2, a, ns, k, rfl, rfl, h.sq, q⟩
end
/-- two promises of one def -/
theorem FnOk.or {P : Program} {w : World} {K : PySem.W.Frag} {mg : Str → Option Value} {base : Heap} {CX : CXT} {k : Nat} {f : Addr} {fd : FuncData} {ps : List Str} {s1 s2 : Sp} (F1 : FnOk P w K mg base CX k f fd ps s1) (F2 : FnOk P w K mg base CX k f fd ps s2) :
    FnOk P w K mg base CX k f fd ps (fun vs H Q E => s1 vs H Q E ∨ s2 vs H Q E) := by
  refine ⟨fun vs H Q E h => h.elim (F1.len vs H Q E) (F2.len vs H Q E), ?_⟩
  intro A outer s H args us vs Q E hr e b
  have h1 := F1.run A outer s H args us vs Q E hr e b
  have h2 := F2.run A outer s H args us vs Q E hr e b
  intros
  first
    | (rename_i h; exact h.elim (fun z => h1 (by assumption) z) (fun z => h2 (by assumption) z))
    | (rename_i h; exact h.elim h1 h2)
end L2

set_option Elab.async false
set_option linter.all false
set_option maxRecDepth 100000
set_option maxHeartbeats 2000000
/-! own rules: tuple(xs), xs a list or a tuple, in one reading -/
namespace L2
open PySem PySem.Spec PyProof.Rows L2
def rTupU : List V → Hp → VK → Prop := fun xs H Q => ∃ p ys, xs = [V.ref p] ∧ (H p = some (.lst ys) ∨ H p = some (.tup ys)) ∧ ∀ t H', Same H H' → H' t = some (.tup ys) → Q (.ref t) H'
theorem call_tupU {X : Cx} : CallR X (.type "tuple") rTupU := by
  intro pins s σ H xs us Q I r ⟨p, ys, e, h, q⟩
  rcases h with h | h
  · exact call_tuple_of pins s σ H xs us Q I r ⟨p, ys, e, .inl ⟨SqL.of h, fun l nl => q l _ (fun b o e => by rw [upd_ne (ne_of_none e nl)]; exact e) upd_same⟩⟩
  · exact call_tuple_of pins s σ H xs us Q I r ⟨p, ys, e, .inr ⟨SqT.of h, q p H (Same.refl _) h⟩⟩
def rCatU : R2 := fun x y H Q => ∃ a b xs ys, x = .ref a ∧ y = .ref b ∧ H a = some (.tup xs) ∧ H b = some (.tup ys) ∧ xs.length + ys.length ≤ sizeLine ∧ ∀ t H', Same H H' → H' t = some (.tup (xs ++ ys)) → Q (.ref t) H'
theorem op_catU {X : Cx} : OpR X (binaryOp .Add) rCatU := by
  intro pins s σ H x y v u Q I rx ry h
  obtain ⟨a, b, xs, ys, ex, ey, ha, hb, hz, q⟩ := h
  refine op_catA pins s σ H x y v u Q I rx ry ⟨a, b, xs, ys, ex, ey, SqT.of ha, SqT.of hb, hz, fun e => ?_, fun _ e => ?_, fun _ _ p np => q p _ (fun b o e => by rw [upd_ne (ne_of_none e np)]; exact e) upd_same⟩
  · exact q b H (fun _ _ e => e) (by rw [e]; exact hb)
  · exact q a H (fun _ _ e => e) (by rw [e, List.append_nil]; exact ha)
def rSlU : V → Option Int → Option Int → Hp → VK → Prop := fun x lo hi H Q => ∃ a xs, x = .ref a ∧ H a = some (.tup xs) ∧ ∀ (p : Addr) (H' : Hp), Same H H' → H' p = some (.tup (cutV xs lo hi)) → Q (.ref p) H'
theorem sl_tupU {X : Cx} : SlR X rSlU := by
  intro pins s σ H x v vl vu lo hi sl Q I rx hs pl pu h
  obtain ⟨a, xs, ex, hx, q⟩ := h
  refine sl_tupA pins s σ H x v vl vu lo hi sl Q I rx hs pl pu ⟨a, xs, ex, SqT.of hx, fun y => ?_, fun _ p np => q p _ (fun b o e => by rw [upd_ne (ne_of_none e np)]; exact e) upd_same⟩
  refine q a H (fun _ _ e => e) ?_
  have : cutV xs lo hi = xs := by
    unfold cutV
    rw [y.1, y.2, List.drop_zero, Nat.sub_zero, List.take_length]
  rw [this]
  exact hx
end L2
namespace Tw
open PySem PySem.Spec PyProof.Rows L2 PySem.W
section
variable {X : Cx} {CX : CXT} {k : Nat} {f C D : Addr} {fd : FuncData} {ps : List Str} {sp : Sp} {E : XK}
theorem op_eq_two (c : EqC X.K C f) (hd : PySem.W.notFirst X.K C (.ref D) = true) (F : FnOk X.prog X.w X.K X.mg X.base CX k f fd ps sp) (hr : Room k X.A) (hb : Binds X.K fd ps []) (hx : Passes CX X E) : OpR X (compareOp .Eq) (fun x y H Q =>
  ∃ a dx fs b dy gs, x = .ref a ∧ H a = some (.ins C dx fs) ∧ y = .ref b ∧ H b = some (.ins D dy gs) ∧ sp [.ref a, y] H (fun v H' => ∃ r, v = .bl r ∧ Q (.bl r) H') E) := by
  intro pins s σ H x y v u Q I rx ry ⟨a, dx, fs, b, dy, gs, ex, ha, ey, hb2, q⟩
  subst ex
  subst ey
  obtain rfl : v = Value.ref a := rx
  obtain rfl : u = Value.ref b := ry
  obtain ⟨mA, O, rr, _, _, _⟩ := ins_get I.hok ha
  obtain ⟨od, J, hl⟩ := O.look
  obtain ⟨mB, OB, rrB, _, _, _⟩ := ins_get I.hok hb2
  obtain ⟨odB, JB, hlB⟩ := OB.look
  obtain ⟨m0, hF⟩ := I.fr
  show wpAny _ _ (richCompare .Eq (.ref a) (.ref b)) _ _ _
  refine cmp_K hr.units0 hF I.ok.mod.kin J JB.type hd c.eq c.fn (thn (run_sub F ⟨hr, rfl⟩ hb hx I (.cons (relR a) (.cons (relR b) .nil)) q) fun r s' ⟨z, H', I', rz, b2, ez, q'⟩ => ?_)
  subst ez
  obtain rfl : r = Value.bool b2 := rz
  exact ⟨_, H', I', relB b2, q'⟩
end
end Tw

set_option Elab.async false
set_option linter.all false
set_option maxRecDepth 100000
set_option maxHeartbeats 2000000
/-! own rules: min(xs, key=lambda x: ys[x]), ys a tuple, a name of the def; t[::-1], t a tuple -/
namespace Cl
open PySem PySem.Spec PyProof.Rows L2 LamX
theorem tuple_getitem_lookup : typeLookup (Value.type "tuple") (Str.ofString "__getitem__") = pure (some (Value.builtin "tuple.__getitem__")) := rfl
section
variable {prog : Program} {w : World} {A : Around} {E : Value → Shared → Prop} {s : Shared}
theorem seqT {i : Int} {vs : List Value} {u : Value} (h0 : 0 ≤ i) (h : vs[i.toNat]? = some u) : seqIndex? i vs.toArray.size = some i.toNat := by
  have hl := (List.getElem?_eq_some_iff.mp h).1
  unfold seqIndex?
  have e : vs.toArray.size = vs.length := by simp
  rw [e, if_neg (show ¬ i < 0 by omega)]
  show (if (decide (0 ≤ i) && decide (i < (vs.length : Int))) = true then some i.toNat else none) = _
  rw [decide_eq_true h0, decide_eq_true (show i < (vs.length : Int) by omega)]
  rfl
/-- lambda x: y[x], called with an int -/
theorem lam_ixT {f l c' ck : Addr} {q x y : Str} {params : Arguments} {p1 p2 p3 : Pos} {scope : Scope} {cl : List (Str × Addr)} {pm ctv u : Value} {vs : List Value} {i : Int} {t : Tok} {Q : Value → Shared → Prop}
    (S : LSc scope x y) (hd : A.depth < recursionLimit) (hf : s.heap.get? f = some (PySem.W.kla_obj "<lambda>" q params (.Subscript (.Name y p1) (.Name x p2) p3) scope cl pm c' ctv))
    (hbind : ∀ v : Value, bindArgs (PySem.W.kla_fn "<lambda>" q params (.Subscript (.Name y p1) (.Name x p2) p3) scope cl pm (.ref c') ctv) ⟨[v], []⟩ = pure [(x, v)])
    (hcode : ∃ (oc : Obj) (us : Array Value) (tk : Tok), s.heap.get? c' = some oc ∧ oc.data = .fields us ∧ us[1]? = some (.str q tk)) (hlim : s.heap.NoLimit)
    (hck : cl.lookup y = some ck) (hcell : s.heap.IsCell ck (some (.ref l))) (hl : IsTup s.heap l vs.toArray) (h0 : 0 ≤ i) (h1 : i < 2 ^ 63) (hi : vs[i.toNat]? = some u)
    (hdx : (x == ("__debug__" : Str)) = false) (hdy : (y == ("__debug__" : Str)) = false) (hcy : (y == ("__classdict__" : Str)) = false)
    (h : ∀ h' tk, s.toks ≤ tk → (∀ b o, s.heap.get? b = some o → h'.get? b = some o) → Q u { s with heap := h', toks := tk }) : wpAny (model prog w) A (call (.ref f) [.int i t]) Q E s := by
  obtain ⟨oc, us, tq, hoc, hdc, hvc⟩ := hcode
  refine wpAny_call (PySem.W.kla_callFunE hd hf rfl S.co S.gen rfl ⟨c', oc, us, tq, rfl, hoc, hdc, hvc⟩ ?_)
  rw [hbind]
  refine wpAny_pure (wpAny_newFunctionEnv S.nocell (fun z hz => by rw [List.mem_singleton.mp hz]; exact S.px) (fun h₁ hns hsb => ⟨hlim.fresh _ hsb, ?_⟩) S.kind)
  have kp : ∀ b o, s.heap.get? b = some o → h₁.get? b = some o := fun b o e => hsb.extBut b o (Nat.ne_of_lt (Heap.lt_size e)) (Heap.get?_push_of_some _ e)
  refine PySem.W.kla_codeExpr ?_
  refine wpAny_Subscript_Name tuple_getitem_lookup ?_
  refine wpAny_Name (wpAny_loadName_free S.kind S.fy hck (hcell.keeps kp) ?_ hcy) hdy
  refine wpAny_Name (wpAny_loadName_local S.kind S.px hns (v := .int i t) ?_ ?_) hdx
  · simp [List.lookup]
  · have hl' : IsTup h₁ l vs.toArray := hl.keeps kp
    refine ⟨hl'.typeIs, getItem_tuple hl' (by omega) h1 (j := i.toNat) (seqT h0 hi) (by simpa using hi) ?_⟩
    exact h h₁ _ (by show s.toks ≤ s.toks + _; omega) kp
/-- what a lambda x: y[x] is, and what it reads -/
structure LamAtT (h : Heap) (f : Addr) (x y : Str) (q : Str) (params : Arguments) (p1 p2 p3 : Pos) (scope : Scope) (cl : List (Str × Addr)) (pm ctv : Value) (c' ck l : Addr) (us : List Value) : Prop where
  fn : h.get? f = some (PySem.W.kla_obj "<lambda>" q params (.Subscript (.Name y p1) (.Name x p2) p3) scope cl pm c' ctv)
  code : ∃ (oc : Obj) (us : Array Value) (tk : Tok), h.get? c' = some oc ∧ oc.data = .fields us ∧ us[1]? = some (.str q tk)
  lim : h.NoLimit
  hck : cl.lookup y = some ck
  cell : h.IsCell ck (some (.ref l))
  lst : IsTup h l us.toArray
theorem LamAtT.keeps {h h' : Heap} {f : Addr} {x y : Str} {q : Str} {params : Arguments} {p1 p2 p3 : Pos} {scope : Scope} {cl : List (Str × Addr)} {pm ctv : Value} {c' ck l : Addr} {us : List Value}
    (L : LamAtT h f x y q params p1 p2 p3 scope cl pm ctv c' ck l us) (k : ∀ b o, h.get? b = some o → h'.get? b = some o) : LamAtT h' f x y q params p1 p2 p3 scope cl pm ctv c' ck l us :=
  ⟨k _ _ L.fn, let ⟨oc, us, tk, a, b, c⟩ := L.code; ⟨oc, us, tk, k _ _ a, b, c⟩, L.lim.keeps k, L.hck, L.cell.keeps k, L.lst.keeps k⟩
theorem min_lamT {f a l c' ck : Addr} {q x y : Str} {params : Arguments} {p1 p2 p3 : Pos} {scope : Scope} {cl : List (Str × Addr)} {pm ctv : Value} {cs us : List Value} {ns : Nat → Int} {kf : Nat → Int} {Q : Value → Shared → Prop}
    (hh : A.handled = none) (S : LSc scope x y) (hd : A.depth < recursionLimit) (L : LamAtT s.heap f x y q params p1 p2 p3 scope cl pm ctv c' ck l us)
    (hbind : ∀ v : Value, bindArgs (PySem.W.kla_fn "<lambda>" q params (.Subscript (.Name y p1) (.Name x p2) p3) scope cl pm (.ref c') ctv) ⟨[v], []⟩ = pure [(x, v)])
    (hdx : (x == ("__debug__" : Str)) = false) (hdy : (y == ("__debug__" : Str)) = false) (hcy : (y == ("__classdict__" : Str)) = false)
    (ht : s.heap.IsTuple a cs.toArray) (hc : ∀ i, i < cs.length → ∃ t, cs[i]? = some (.int (ns i) t)) (hne : 0 < cs.length)
    (hk : ∀ i, i < cs.length → 0 ≤ ns i ∧ ns i < 2 ^ 63 ∧ ∃ t, us[(ns i).toNat]? = some (.int (kf i) t))
    (h : ∀ v h' tk, cs[argBest (fun i j => decide (kf i < kf j)) (cs.length - 1)]? = some v → (∀ b o, s.heap.get? b = some o → h'.get? b = some o) → Q v { s with heap := h', toks := tk }) :
    wpAny (model prog w) A (call (.builtin "min") [.ref a] [(Str.ofString "key", .ref f)]) Q E s := by
  have hd1 : A.in1.depth < recursionLimit := hd
  refine call_min_walkK (PySem.W.iter_tupleW (A := A.in1) hh ht fun s₂ e2 W st hfp hfr kp2 => ?_)
  have sz2 : s.heap.objs.size < s₂.heap.objs.size := hfp _ List.mem_cons_self
  have old : ∀ {s' : Shared}, Moved [s₂.heap.objs.size, s.heap.objs.size] (fun a b => b = a) s₂ s' → ∀ b o, s.heap.get? b = some o → s'.heap.get? b = some o := fun {s'} m b o e => by
    have lt := Heap.lt_size e
    refine m.heap b o (fun hm => ?_) (kp2 b o e)
    rcases List.mem_cons.mp hm with z | hm
    · rw [z] at lt
      exact Nat.lt_irrefl _ (Nat.lt_trans lt sz2)
    · rw [List.mem_singleton.mp hm] at lt
      exact Nat.lt_irrefl _ lt
  have szc : cs.toArray.size = cs.length := by simp
  refine ⟨s.heap.objs.size, [s.heap.objs.size, a], [s.heap.objs.size], (fun a b => b = a), cs.toArray.size, _, _, fun s' => Moved [s₂.heap.objs.size, s.heap.objs.size] (fun a b => b = a) s₂ s', fun i k _ => ∃ t, k = .int (kf i) t, fun i j => decide (kf i < kf j), rfl, W, st, hfp, by rw [szc]; exact hne, ⟨?_, ?_, ?_, ?_⟩, Moved.refl fun _ => rfl, ?_⟩
  · exact fun s1 s' J m => J.trans (fun _ _ _ h1 h2 => h2.trans h1) m
  · exact fun i k s1 s' v _ => v
  · intro i v s1 o Q' E' hi hP J stI hS cont
    rw [szc] at hi
    obtain ⟨t, ec⟩ := hc i hi
    have ev : v = .int (ns i) t := by
      have hP' : cs[i]? = some v := by simpa using hP
      rw [ec] at hP'
      exact (Option.some.inj hP').symm
    subst ev
    obtain ⟨h0, h1, tk, eu⟩ := hk i hi
    have L1 := L.keeps (old J)
    refine lam_ixT S hd1 L1.fn hbind L1.code L1.lim L1.hck L1.cell L1.lst h0 h1 eu hdx hdy hcy fun h' tk' hle kp => ?_
    exact cont _ _ (J.then_heap hle fun b o _ e => kp b o e) (W.frame _ s1 h' tk' stI hle fun b _ o e => kp b o e) (kp _ _ hS) ⟨_, rfl⟩ fun j k' z => z
  · intro i j ki kj s1 Q' E' J vi vj q
    exact CmpOf.ints_lt (prog := prog) (w := w) (A := A.in1) (P := fun i v => ∃ t, v = .int (kf i) t) kf (fun i v h => h) i j ki kj s1 Q' E' vi vj q
  · intro v s' hP J
    rw [szc] at hP
    have hP' : cs[argBest (fun i j => decide (kf i < kf j)) (cs.length - 1)]? = some v := by simpa using hP
    have e : s' = { s with heap := s'.heap, toks := s'.toks } := by
      obtain ⟨hp, g, d, tk, os⟩ := s'
      subst e2
      have h1 : g = s.gens := J.gens
      have h2 : d = s.drawn := J.drawn
      have h3 : os = s.os := J.os
      subst h1 h2 h3
      rfl
    rw [e]
    exact h v s'.heap s'.toks hP' (old J)
end
section
variable {X : Cx}
def tMinLamT (K : PySem.W.Frag) (T : List (Addr × Str)) (j : Nat) (te : TE) : TE := fun σ H Q => te σ H fun v H1 => ∃ (a l : Addr) (ns ks : List Int), v = .ref a ∧ SqT K H1 a (ns.map V.int) ∧ σ[j]? = some (some (.ref l)) ∧ SqT K H1 l (ks.map V.int) ∧ 0 < ns.length ∧ (∀ n ∈ ns, 0 ≤ n ∧ n < ks.length) ∧
  Tabs T H1 ∧ ∀ (m : Int) (H2 : Hp), ExtN H1 H2 → Tabs T H2 → LeastAt ks ns m → Q (.int m) H2
/-- min(e, key=lambda x: y[x]), y a name of the def that it shares with the lambda -/
theorem pe_minlamT {T : List (Addr × Str)} {c P : Addr} {p p1 p2 p3 lpos kpos pos : Pos} {e : Expr} {te : TE} {x y : Str} {j : Nat} {params : Arguments} {scope : Scope}
    (hg : Gl X "min") (hm : X.mg "min" = none) (he : PE X e te) (hd : X.A.depth < recursionLimit) (hh : X.A.handled = none) (TB : TabB X.base X.mg c P) (hcode : X.env.code = .ref c) (hmT : (P, X.env.qual ++ "<lambda>") ∈ T)
    (hu : ∀ q ∈ T, q.1 = P → q.2 = X.env.qual ++ "<lambda>") (S : LSc scope x y) (hfy : X.env.scope.names.lookup y = some .cell) (hfr : ∀ z ∈ scope.names, z.2 = .free → z.1 = y) (hN : X.N[j]? = some y) (hdef : defaultsOf params X.env = ([], []))
    (hbind : ∀ (q : Str) (cl : List (Str × Addr)) (pm cv ctv v : Value), bindArgs (PySem.W.kla_fn "<lambda>" q params (.Subscript (.Name y p1) (.Name x p2) p3) scope cl pm cv ctv) ⟨[v], []⟩ = pure [(x, v)])
    (hs : starEach [e] X.env = (false, eval e X.env) :: starEach [] X.env := by rfl)
    (hdx : (x == ("__debug__" : Str)) = false := by decide) (hdy : (y == ("__debug__" : Str)) = false := by decide) (hcy : (y == ("__classdict__" : Str)) = false := by decide) :
    PE X (.Call (.Name "min" p) [e] [⟨some "key", .Lambda params (.Subscript (.Name y p1) (.Name x p2) p3) scope lpos, kpos⟩] pos) (tMinLamT X.K T j te) := by
  refine ⟨fun pins s σ H Q I h => ?_⟩
  have hfree : ∀ z ∈ scope.names, z.2 = .free → ∃ c, X.env.cells.lookup z.1 = some c := fun z hz e => I.ok.has _ (.inl (by rw [hfr z hz e]; exact hfy))
  refine wpAny_Call_Name_kw (ld_blt I hg hm (u := .builtin "min") (by decide +kernel) ?_)
  refine PyProof.Rows.callWith_kw ?_ (by rw [hs]; rfl) (by rw [hs]; rfl) (by rfl) (by rfl)
  rw [hs]
  show wpAny _ _ (spliced ((false, eval e X.env) :: backTo pos (starEach [] X.env))) _ _ s
  refine Calls.spliced_cons (thn (he.run pins s σ H _ I h) fun u s1 ⟨v, H1, I1, r1, a, l, ns, ks, ev, ht, hσ, hl, hne, hin, hT, q⟩ => Calls.spliced_nil ?_)
  subst ev
  obtain rfl : u = Value.ref a := r1
  show wpAny _ _ (evalAll ((do let v ← eval (.Lambda params (.Subscript (.Name y p1) (.Name x p2) p3) scope lpos) X.env; standAt pos; pure v) :: [])) _ _ s1
  refine wpAny_evalAll_cons (wpAny_bind (lam_make2 I1 TB hcode hmT hu hT hdef hfree fun f c' pm ctv H2 s2 I2 eN T2 hf hfn hff hco => wpAny_bind (wpAny_standAt (wpAny_pure (wpAny_evalAll_nil ?_)))))
  show wpAny _ _ (call (.builtin "min") [.ref a] [(Str.ofString "key", .ref f)]) _ _ s2
  obtain ⟨cs, rc, tc, _⟩ := I2.tuple (eN.sqT ht)
  obtain ⟨us, ru, pl, hz2⟩ := I2.tuple (eN.sqT hl)
  obtain ⟨m, _, look⟩ := I2.loc
  obtain ⟨u0, r0, lk⟩ := look j y _ hN hσ (.inr (.inl hfy))
  obtain rfl : u0 = Value.ref l := r0
  have cellAt : ∃ ck, X.env.cells.lookup y = some ck ∧ s2.heap.IsCell ck (some (.ref l)) := by
    rcases lk with ⟨k, _⟩ | ⟨_, ck, e1, e2⟩
    · rw [show X.env.kindOf y = some .cell from hfy] at k
      cases k
    · exact ⟨ck, e1, e2⟩
  obtain ⟨ck, eck, hcell⟩ := cellAt
  obtain ⟨⟨oc, vs, tk, o1, o2, o3⟩, _, _⟩ := I2.hok c' _ hco
  have lc : cs.length = ns.length := by rw [← rc.length, List.length_map]
  have lu : us.length = ks.length := by rw [← ru.length, List.length_map]
  have nsAt : ∀ i, i < ns.length → ∃ t, cs[i]? = some (.int (ns.getD i 0) t) := fun i hi => by
    obtain ⟨z, ez, rz⟩ := rc.get (i := i) (x := V.int (ns.getD i 0)) (by rw [List.getElem?_map, List.getD_eq_getElem?_getD, List.getElem?_eq_getElem hi]; rfl)
    obtain ⟨t, rfl⟩ := rz
    exact ⟨t, ez⟩
  refine min_lamT (ns := fun i => ns.getD i 0) (kf := fun i => ks.getD (ns.getD i 0).toNat 0) hh S hd ⟨hf, ⟨oc, vs, tk, o1, o2, o3⟩, I2.nolimit, NdefX.clo_has hfree (PySem.mem_of_lookup S.fy) eck, hcell, pl⟩ (fun v => hbind _ _ _ _ _ v) hdx hdy hcy tc (fun i hi => nsAt i (by omega)) (by omega)
    (fun i hi => ?_) fun v h' tk2 hv kp => ?_
  · have hi' : i < ns.length := by omega
    have hmem : ns.getD i 0 ∈ ns := by rw [List.getD_eq_getElem?_getD, List.getElem?_eq_getElem hi']; exact List.getElem_mem hi'
    obtain ⟨b0, b1⟩ := hin _ hmem
    have hs63 := line63
    rw [List.length_map] at hz2
    have hk' : (ns.getD i 0).toNat < ks.length := by omega
    obtain ⟨z, ez, rz⟩ := ru.get (i := (ns.getD i 0).toNat) (x := V.int (ks.getD (ns.getD i 0).toNat 0)) (by rw [List.getElem?_map, List.getD_eq_getElem?_getD (l := ks), List.getElem?_eq_getElem hk']; rfl)
    obtain ⟨t, rfl⟩ := rz
    exact ⟨b0, by omega, t, ez⟩
  · obtain ⟨n, en⟩ : ∃ n, ns.length = n + 1 := ⟨ns.length - 1, by omega⟩
    have fl := best_is (fun i => ks.getD (ns.getD i 0).toNat 0) n
    rw [← en] at fl
    rw [lc, show ns.length - 1 = n by omega] at hv
    obtain ⟨t, et⟩ := nsAt _ fl.1
    rw [et] at hv
    cases hv
    exact ⟨.int _, H2, I2.kept kp, ⟨t, rfl⟩, q _ H2 eN T2 ⟨_, fl, rfl⟩⟩
end
end Cl
namespace L2
open PySem PySem.Spec PyProof.Rows L2
section
variable {prog : Program} {w : World} {A : Around} {E : Value → Shared → Prop} {s : Shared}
theorem pick_rev (items : Array Value) : (List.filterMap (fun (k : Nat) => items[((items.size : Int) - 1 + ↑k * -1).toNat]?) (List.range items.size)) = items.toList.reverse := by
  obtain ⟨l⟩ := items
  simp only [List.size_toArray, List.getElem?_toArray]
  have h : ∀ m, m ≤ l.length → List.filterMap (fun (k : Nat) => l[((l.length : Int) - 1 + ↑k * -1).toNat]?) (List.range m) = (l.drop (l.length - m)).reverse := by
    intro m
    induction m with
    | zero => intro _; simp
    | succ m ih =>
      intro hm
      rw [List.range_succ, List.filterMap_append, ih (by omega)]
      have hi : l.length - (m + 1) < l.length := by omega
      have e1 : List.filterMap (fun (k : Nat) => l[((l.length : Int) - 1 + ↑k * -1).toNat]?) [m] = [l[l.length - (m + 1)]] := by
        rw [List.filterMap_cons]
        rw [show (((l.length : Int) - 1 + ((m : Nat) : Int) * -1).toNat) = l.length - (m + 1) by omega, List.getElem?_eq_getElem hi]
        rfl
      have e2 : l.drop (l.length - (m + 1)) = l[l.length - (m + 1)] :: l.drop (l.length - m) := by
        rw [List.drop_eq_getElem_cons hi, show l.length - (m + 1) + 1 = l.length - m by omega]
      rw [e1, e2, List.reverse_cons]
  rw [h _ (Nat.le_refl _), Nat.sub_self, List.drop_zero]
theorem sliceApplied_rev {sl : Addr} {t : Tok} {n : Nat} {Q : Int × Int × Nat → Shared → Prop} (h : s.heap.IsSliceOf sl .none .none (.int (-1) t)) (q : Q ((n : Int) - 1, -1, n) s) :
    wpAny (model prog w) A (Builtin.Slice.sliceApplied (.ref sl) (pure ↑n)) Q E s := by
  obtain ⟨o, h1, h2, h3⟩ := h
  unfold Builtin.Slice.sliceApplied
  refine wpAny_bind ?_
  unfold Builtin.Slice.sliceFields
  refine wpAny_bind (wpAny_field h1 h3 (by rfl) ?_)
  refine wpAny_bind (wpAny_field h1 h3 (by rfl) ?_)
  refine wpAny_bind (wpAny_field h1 h3 (by rfl) ?_)
  refine wpAny_pure ?_
  refine wpAny_bind (slicePart_int ?_)
  show wpAny _ _ (if ((-1 : Int) == 0) = true then _ else _) _ _ _
  rw [if_neg (by decide)]
  refine wpAny_bind (slicePart_none ?_)
  refine wpAny_bind (slicePart_none ?_)
  refine wpAny_bind (wpAny_pure ?_)
  have e : Builtin.Slice.sliceAdjust none none (-1) (n : Int) = ((n : Int) - 1, -1) := rfl
  show wpAny _ _ (match Builtin.Slice.sliceAdjust none none (-1) (n : Int) with | (lo, hi) => pure (lo, -1, Builtin.Slice.slicePlaces lo hi (-1))) _ _ _
  rw [e]
  refine wpAny_pure ?_
  have e2 : Builtin.Slice.slicePlaces ((n : Int) - 1) (-1) (-1) = n := by
    unfold Builtin.Slice.slicePlaces
    rw [if_neg (by decide)]
    by_cases h0 : n = 0
    · subst h0
      rfl
    · rw [if_pos (by omega)]
      show (((n : Int) - 1 - -1 - 1) / 1 + 1).toNat = n
      omega
  rw [e2]
  exact q
theorem getItem_tuple_rev {t sl : Addr} {items : Array Value} {tk : Tok} {Q : Value → Shared → Prop} (ht : IsTup s.heap t items) (hs : s.heap.IsSliceOf sl .none .none (.int (-1) tk)) (hz : items.size ≤ sizeLine)
    (q : Q (.ref s.heap.objs.size) { s with heap := s.heap.push { cls := .type "tuple", data := .seq items.toList.reverse.toArray } }) : wpAny (model prog w) A (getItem (.ref t) (.ref sl)) Q E s := by
  unfold getItem
  refine wpAny_holding ?_
  refine wpAny_bind (wpAny_sequenceKey ht.typeIs (by decide) ?_)
  refine wpAny_bind (wpAny_callSpecial?_slot ht.typeIs slot_tuple_getitem (wpAny_call_entry slot_tuple_getitem ht.typeIs entry_tuple_getitem ?_ (args_tuple_getitem _ _)))
  unfold Builtin.«tuple.__getitem__»
  show wpAny _ _ (do
      let xs ← Builtin.Tuple.tupleItemsOf (.ref t)
      _) _ _ _
  refine wpAny_bind (tupleItemsOf_ ht ?_)
  obtain ⟨o, h1, h2, h3⟩ := id hs
  refine wpAny_bind (wpAny_typeOf (T := "slice") ⟨_, h1, h2⟩ ?_)
  rw [if_pos (by decide)]
  refine wpAny_bind (sliceApplied_rev hs ?_)
  show wpAny _ _ (if (((items.size : Int) - 1) == 0 && ((-1 : Int) == 1) && items.size == items.size) = true then _ else _) _ _ _
  rw [if_neg (by simp)]
  refine wpAny_bind ?_
  unfold Builtin.Tuple.tupleExact
  refine wpAny_newObj_type ?_ ?_
  · rw [pick_rev]
    refine wpAny_pure ⟨_, rfl, ?_⟩
    exact wpAny_pure q
  · show sizeOk (.seq _)
    rw [pick_rev]
    show (items.toList.reverse.toArray).size ≤ sizeLine
    simpa using hz
end
section
variable {X : Cx}
/-- t[::-1], t a tuple -/
def tRevT (K : PySem.W.Frag) (te ts : TE) : TE := fun σ H Q => te σ H fun x H1 => ts σ H1 fun y H2 => y = .int (-1) ∧ ∃ a xs, x = .ref a ∧ SqT K H2 a xs ∧ ∀ (p : Addr) (H' : Hp), Same H2 H' → H' p = some (.tup xs.reverse) → Q (.ref p) H'
theorem pe_revT {e st : Expr} {p3 pos : Pos} {te ts : TE} (he : PE X e te) (hs : PE X st ts) : PE X (.Subscript e (.Slice none none (some st) p3) pos) (tRevT X.K te ts) := by
  refine ⟨fun pins s σ H Q I h => ?_⟩
  refine Subscript_ (thn (he.run pins s σ H _ I h) fun v s1 ⟨x, H1, I1, r1, h1⟩ => ?_)
  refine wpAny_Slice ?_
  rw [evalPart_none]
  refine wpAny_pure (wpAny_pure ?_)
  show wpAny _ _ (eval st X.env) _ _ s1
  refine thn (hs.run pins s1 σ H1 _ I1 h1) fun u s2 ⟨y, H2, I2, r2, ey, a, xs, ex, ht, q⟩ => ?_
  subst ey
  subst ex
  obtain ⟨tk, rfl⟩ := r2
  obtain rfl : v = Value.ref a := r1
  have I3 := I2.kept (t' := s2.toks) (h' := s2.heap.push { cls := .type "slice", data := .fields #[.none, .none, .int (-1) tk] }) fun b o e => Heap.get?_push_of_some _ e
  obtain ⟨its, rv, tt, hz⟩ := I3.tuple ht
  have hl := rv.length
  refine tail_any (T := "tuple") tt.typeIs rfl ?_ rfl
  refine getItem_tuple_rev tt (Heap.IsSliceOf.new _ _ _ _) (by simp only [List.size_toArray]; omega) ?_
  generalize s2.heap.push { cls := .type "slice", data := .fields #[.none, .none, .int (-1) tk] } = h3 at I3 tt
  have hn := I3.hok.fresh (Nat.le_refl h3.objs.size)
  exact ⟨.ref h3.objs.size, _, I3.laid (t' := s2.toks) (fun b o e => Heap.get?_push_of_some _ e) (Nat.le_refl _) (show ObjOk X.prog X.w _ _ _ (.tup xs.reverse) from ⟨by rw [List.length_reverse]; exact hz, its.reverse, rv.reverse, IsTup.new _ _⟩), rfl, q _ _ (fun b o e => by rw [upd_ne (ne_of_none e hn)]; exact e) upd_same⟩
end
end L2
namespace Tw
open PySem PySem.Spec PyProof.Rows L2 PySem.W
section
variable {X : Cx} {CX : CXT} {k : Nat} {f C D : Addr} {fd : FuncData} {ps : List Str} {sp : Sp} {E : XK}
theorem op_notIn_own (hd : Dn X.K C "__contains__" f) (F : FnOk X.prog X.w X.K X.mg X.base CX k f fd ps sp) (hr : Room k X.A) (hb : Binds X.K fd ps []) (hx : Passes CX X E) : OpR X (compareOp .NotIn) (rIn C sp E true) := by
  intro pins s σ H x y v u Q I rx ry ⟨a, dx, fs, ey, ha, q⟩
  subst ey
  obtain rfl : u = Value.ref a := ry
  obtain ⟨mA, O, rr, _, _, _⟩ := ins_get I.hok ha
  obtain ⟨od, J, hl⟩ := O.look
  obtain ⟨m0, hF⟩ := I.fr
  refine PySem.W.notIn_K hF I.ok.mod.kin J hd.at_ hd.fn (thn (run_sub F ⟨hr, rfl⟩ hb hx I (.cons (relR a) (.cons rx .nil)) q) fun r s' ⟨z, H', I', rz, b, ez, q'⟩ => ?_)
  subst ez
  obtain rfl : r = Value.bool b := rz
  exact wpAny_truthy_bool ⟨_, _, I', relB (!b), q'⟩
end
end Tw

set_option Elab.async false
set_option linter.all false
set_option maxRecDepth 100000
set_option maxHeartbeats 4000000
/-! min(xs), xs a list of tuples of ints -/
namespace L2
open PySem PySem.Spec PyProof.Rows PySem.W
theorem tupE_lt (p q : List Int) : dataLt (tupE p) (tupE q) = decide (p < q) := by
  show dataLt (.tuple (p.map .int)) (.tuple (q.map .int)) = _
  rw [dataLt_tuple]
  show rowLt (p.map .int) (q.map .int) = _
  rw [dataLt_ints]
theorem minD_ints : ∀ (r : List (List Int)) (b : List Int), ∃ m, minD (tupE b) (r.map tupE) = tupE m ∧ m ∈ b :: r ∧ ∀ z ∈ b :: r, m ≤ z
  | [], b => ⟨b, rfl, List.mem_cons_self, fun z hz => by rw [List.mem_singleton.mp hz]; exact List.le_refl _⟩
  | c :: r, b => by
    have e : minD (tupE b) ((c :: r).map tupE) = minD (if decide (c < b) = true then tupE c else tupE b) (r.map tupE) := by
      show List.foldl _ _ _ = List.foldl _ _ _
      rw [List.map_cons, List.foldl_cons, tupE_lt]
    rw [e]
    by_cases h : c < b
    · rw [if_pos (decide_eq_true h)]
      obtain ⟨m, e1, e2, e3⟩ := minD_ints r c
      refine ⟨m, e1, List.mem_cons_of_mem _ e2, fun z hz => ?_⟩
      rcases List.mem_cons.mp hz with rfl | hz
      · exact List.le_trans (e3 c List.mem_cons_self) (List.le_of_lt h)
      · exact e3 z hz
    · rw [if_neg (fun z => h (of_decide_eq_true z))]
      obtain ⟨m, e1, e2, e3⟩ := minD_ints r b
      refine ⟨m, e1, ?_, fun z hz => ?_⟩
      · rcases List.mem_cons.mp e2 with rfl | e2
        · exact List.mem_cons_self
        · exact List.mem_cons_of_mem _ (List.mem_cons_of_mem _ e2)
      · rcases List.mem_cons.mp hz with rfl | hz
        · exact e3 _ List.mem_cons_self
        · rcases List.mem_cons.mp hz with rfl | hz
          · exact List.le_trans (e3 b List.mem_cons_self) (List.not_lt.mp h)
          · exact e3 z (List.mem_cons_of_mem _ hz)
theorem tupE_depth (b : List Int) : (tupE b).depth ≤ 1 := by
  simp [PyData.depth, depth_ints]
theorem tupE_depths : ∀ bs : List (List Int), PyData.depthAll (bs.map tupE) ≤ 1
  | [] => by simp [PyData.depthAll]
  | b :: bs => by
    have h1 := tupE_depth b
    have h2 := tupE_depths bs
    rw [List.map_cons, PyData.depthAll]
    omega
section
variable {X : Cx} {pins : List (Addr × Obj)} {σ : St} {H : Hp} {s : Shared}
theorem readsAll_tups (I : Inv X pins σ H s) : ∀ {us : List Value} {bs : List (List Int)}, EachIs (TupV X.K H) us bs → ∃ as, ReadsAll s.heap us (bs.map tupE) as
  | _, _, .nil => ⟨_, .nil⟩
  | _, _, .cons h p => by
    obtain ⟨as, r⟩ := tupV_reads I h
    obtain ⟨bs, rs⟩ := readsAll_tups I p
    exact ⟨_, .cons r rs⟩
theorem ints_lay : ∀ ns : List Int, PyData.canLayAll0 (ns.map .int) = true
  | [] => rfl
  | a :: ns => by
    rw [List.map_cons]
    simp [PyData.canLayAll0, PyData.canLay0, ints_lay ns]
theorem pdi_inj : ∀ ms ns : List Int, ms.map PyData.int = ns.map PyData.int → ms = ns
  | [], [], _ => rfl
  | [], b :: ns, h => by simp at h
  | a :: ms, [], h => by simp at h
  | a :: ms, b :: ns, h => by
    rw [List.map_cons, List.map_cons] at h
    injection h with h1 h2
    injection h1 with h1
    rw [h1, pdi_inj ms ns h2]
theorem reads_tup_one {h : Heap} {t : Addr} {ms ns : List Int} {as bs : List Addr} (h1 : Reads h (.ref t) (tupE ms) as) (h2 : Reads h (.ref t) (tupE ns) bs) : ms = ns := by
  have e := SeqAt.ReadsAll.unique [tupE ms] [tupE ns] [.ref t] _ _ (by simp [PyData.canLayAll0, PyData.canLay0, ints_lay]) (.cons h1 .nil) (.cons h2 .nil)
  have e2 := (List.cons.inj e).1
  unfold tupE at e2
  injection e2 with e2
  exact pdi_inj ms ns e2
/-- min(xs) -/
def rMinTA (K : PySem.W.Frag) : List V → Hp → VK → Prop := fun vs H Q => ∃ (a : Addr) (xs : List V) (bs : List (List Int)), vs = [V.ref a] ∧ SqL K H a xs ∧ Paired (TupI K H) xs bs ∧ bs ≠ [] ∧
  ∀ (t : Addr) (m : List Int), SqT K H t (m.map V.int) → m ∈ bs → (∀ z ∈ bs, m ≤ z) → Q (.ref t) H
theorem each_at {R : Value → List Int → Prop} : ∀ {us : List Value} {bs : List (List Int)}, EachIs R us bs → ∀ {i : Nat} {v : Value}, us[i]? = some v → ∃ b, R v b
  | _, _, .nil, i, v, h => by simp at h
  | _, _, .cons h p, 0, v, e => by
    cases e
    exact ⟨_, h⟩
  | _, _, .cons h p, i + 1, v, e => each_at p e
theorem cr_minTA (hh : X.A.handled = none) (hu : X.A.units + 65 < cLine) : CallR X (.builtin "min") (rMinTA X.K) := by
  intro pins s σ H vs us Q I r h
  obtain ⟨a, xs, bs, rfl, hs, hp, hne, q⟩ := h
  obtain ⟨its, rv, hl, hz⟩ := I.list hs
  rw [Vals.ref1 r]
  have e0 : EachIs (TupV X.K H) its bs := tupV_of hp rv
  match bs, hne, e0, q with
  | b :: r, _, e0, q =>
    obtain ⟨as, ra⟩ := readsAll_tups I e0
    obtain ⟨m, em, hm, hle⟩ := minD_ints r b
    refine min_list_data (x := tupE b) (xs := r.map tupE) hh hl.isList (by simpa using ra) ⟨?_, ?_⟩ ?_ fun i v h' tk cs hv hr kp => ?_
    · intro x hx y hy
      rw [← List.map_cons] at hx hy
      obtain ⟨b1, _, rfl⟩ := List.mem_map.mp hx
      obtain ⟨b2, _, rfl⟩ := List.mem_map.mp hy
      simp [alike, alike_ints]
    · intro x hx
      rw [← List.map_cons] at hx
      obtain ⟨b1, _, rfl⟩ := List.mem_map.mp hx
      intro z
      cases z
    · have := tupE_depths (b :: r)
      rw [List.map_cons] at this
      omega
    · have hv' : its[i]? = some v := by simpa using hv
      obtain ⟨ns, t, rfl, ht⟩ := each_at e0 hv'
      rw [em] at hr
      have e1 : ns = m := by
        obtain ⟨bs1, r1⟩ := tupV_reads I ⟨t, rfl, ht⟩
        exact reads_tup_one (reads_keeps kp r1) hr
      subst e1
      exact ⟨.ref t, H, I.kept kp, rfl, q t ns ht hm hle⟩
end
end L2

set_option Elab.async false
set_option linter.all false
set_option maxRecDepth 100000
set_option maxHeartbeats 2000000
namespace Tw
open PySem PySem.Spec PyProof.Rows L2
def topS (i : Nat) : Stmt := PySem.Challenge.pw_heaprows_k17_whole_pushes.main.body.getD i (.Pass ⟨0, 0, 0, 0⟩)
abbrev s_is_integer : Stmt := topS 16
theorem sc_is_integer : FnScope ["thing"] ["thing"] (defScope s_is_integer) := ⟨rfl, rfl, rfl, by decide +kernel, rfl, by decide +kernel, by decide +kernel⟩
abbrev s_is_integer_from : Stmt := topS 17
theorem sc_is_integer_from : FnScope ["thing", "least", "greatest"] ["thing", "least", "greatest"] (defScope s_is_integer_from) := ⟨rfl, rfl, rfl, by decide +kernel, rfl, by decide +kernel, by decide +kernel⟩
abbrev s_is_key : Stmt := topS 18
theorem sc_is_key : FnScope ["thing"] ["thing"] (defScope s_is_key) := ⟨rfl, rfl, rfl, by decide +kernel, rfl, by decide +kernel, by decide +kernel⟩
abbrev s_check_arms : Stmt := topS 19
theorem sc_check_arms : FnScope ["arms"] ["arms"] (defScope s_check_arms) := ⟨rfl, rfl, rfl, by decide +kernel, rfl, by decide +kernel, by decide +kernel⟩
abbrev s_check_many : Stmt := topS 20
theorem sc_check_many : FnScope ["many"] ["many"] (defScope s_check_many) := ⟨rfl, rfl, rfl, by decide +kernel, rfl, by decide +kernel, by decide +kernel⟩
abbrev s_check_place : Stmt := topS 21
theorem sc_check_place : FnScope ["place", "many"] ["place", "many"] (defScope s_check_place) := ⟨rfl, rfl, rfl, by decide +kernel, rfl, by decide +kernel, by decide +kernel⟩
abbrev s_check_key : Stmt := topS 22
theorem sc_check_key : FnScope ["key"] ["key"] (defScope s_check_key) := ⟨rfl, rfl, rfl, by decide +kernel, rfl, by decide +kernel, by decide +kernel⟩
abbrev s_row_of : Stmt := topS 23
theorem sc_row_of : FnScope ["row", "index", "key"] ["row"] (defScope s_row_of) := ⟨rfl, rfl, rfl, by decide +kernel, rfl, by decide +kernel, by decide +kernel⟩
abbrev s_check_different : Stmt := topS 24
theorem sc_check_different : FnScope ["keys", "place", "key"] ["keys"] (defScope s_check_different) := ⟨rfl, rfl, rfl, by decide +kernel, rfl, by decide +kernel, by decide +kernel⟩
abbrev s_t___init__ : Stmt := inClass (topS 26) 0
theorem sc_t___init__ : FnScope ["self", "many", "arms"] ["self", "many", "arms"] (defScope s_t___init__) := ⟨rfl, rfl, rfl, by decide +kernel, rfl, by decide +kernel, by decide +kernel⟩
abbrev s_t_of : Stmt := inClass (topS 26) 1
theorem sc_t_of : FnScope ["cls", "row", "arms"] ["cls", "row", "arms"] (defScope s_t_of) := ⟨rfl, rfl, rfl, by decide +kernel, rfl, by decide +kernel, by decide +kernel⟩
abbrev s_t___len__ : Stmt := inClass (topS 26) 2
theorem sc_t___len__ : FnScope ["self"] ["self"] (defScope s_t___len__) := ⟨rfl, rfl, rfl, by decide +kernel, rfl, by decide +kernel, by decide +kernel⟩
abbrev s_t___contains__ : Stmt := inClass (topS 26) 3
theorem sc_t___contains__ : FnScope ["self", "thing"] ["self", "thing"] (defScope s_t___contains__) := ⟨rfl, rfl, rfl, by decide +kernel, rfl, by decide +kernel, by decide +kernel⟩
abbrev s_t___iter__ : Stmt := inClass (topS 26) 4
theorem sc_t___iter__ : FnScope ["self"] ["self"] (defScope s_t___iter__) := ⟨rfl, rfl, rfl, by decide +kernel, rfl, by decide +kernel, by decide +kernel⟩
abbrev s_t___getitem__ : Stmt := inClass (topS 26) 5
theorem sc_t___getitem__ : FnScope ["self", "place", "first"] ["self", "place"] (defScope s_t___getitem__) := ⟨rfl, rfl, rfl, by decide +kernel, rfl, by decide +kernel, by decide +kernel⟩
abbrev s_t_parent : Stmt := inClass (topS 26) 7
theorem sc_t_parent : FnScope ["self", "place"] ["self", "place"] (defScope s_t_parent) := ⟨rfl, rfl, rfl, by decide +kernel, rfl, by decide +kernel, by decide +kernel⟩
abbrev s_t_way_to : Stmt := inClass (topS 26) 8
theorem sc_t_way_to : FnScope ["self", "place", "way", "above"] ["self", "place"] (defScope s_t_way_to) := ⟨rfl, rfl, rfl, by decide +kernel, rfl, by decide +kernel, by decide +kernel⟩
abbrev s_t_depth : Stmt := inClass (topS 26) 9
theorem sc_t_depth : FnScope ["self", "place"] ["self", "place"] (defScope s_t_depth) := ⟨rfl, rfl, rfl, by decide +kernel, rfl, by decide +kernel, by decide +kernel⟩
abbrev s_is_heap : Stmt := topS 28
theorem sc_is_heap : FnScope ["row", "arms"] ["row", "arms"] (defScope s_is_heap) := ⟨rfl, rfl, rfl, by decide +kernel, rfl, by decide +kernel, by decide +kernel⟩
abbrev s_faults : Stmt := topS 29
theorem sc_faults : FnScope ["row", "arms", "tree", "place"] ["row", "arms"] (defScope s_faults) := ⟨rfl, rfl, rfl, by decide +kernel, rfl, by decide +kernel, by decide +kernel⟩
abbrev s_heap_of : Stmt := topS 30
theorem sc_heap_of : FnScope ["row", "arms", "wrong"] ["row", "arms"] (defScope s_heap_of) := ⟨rfl, rfl, rfl, by decide +kernel, rfl, by decide +kernel, by decide +kernel⟩
abbrev s_different_heap_of : Stmt := topS 31
theorem sc_different_heap_of : FnScope ["row", "arms", "heap"] ["row", "arms"] (defScope s_different_heap_of) := ⟨rfl, rfl, rfl, by decide +kernel, rfl, by decide +kernel, by decide +kernel⟩
abbrev s_z___init__ : Stmt := inClass (topS 33) 0
theorem sc_z___init__ : FnScope ["self", "row", "way", "looks"] ["self", "row", "way", "looks"] (defScope s_z___init__) := ⟨rfl, rfl, rfl, by decide +kernel, rfl, by decide +kernel, by decide +kernel⟩
abbrev s_sift_up : Stmt := topS 34
theorem sc_sift_up : FnScope ["row", "place", "arms", "tree", "above", "keys", "way", "looks", "parent", "here"] ["row", "place", "arms"] (defScope s_sift_up) := ⟨rfl, rfl, rfl, by decide +kernel, rfl, by decide +kernel, by decide +kernel⟩
abbrev s_row_before : Stmt := topS 35
theorem sc_row_before : FnScope ["row", "way", "keys", "place", "after"] ["row", "way"] (defScope s_row_before) := ⟨rfl, rfl, rfl, by decide +kernel, rfl, by decide +kernel, by decide +kernel⟩
abbrev s_push : Stmt := topS 37
theorem sc_push : FnScope ["row", "key", "arms", "heap"] ["row", "key", "arms"] (defScope s_push) := ⟨rfl, rfl, rfl, by decide +kernel, rfl, by decide +kernel, by decide +kernel⟩
abbrev s_check_filled : Stmt := topS 38
theorem sc_check_filled : FnScope ["heap"] ["heap"] (defScope s_check_filled) := ⟨rfl, rfl, rfl, by decide +kernel, rfl, by decide +kernel, by decide +kernel⟩
abbrev s_p___init__ : Stmt := inClass (topS 40) 0
theorem sc_p___init__ : FnScope ["self", "row", "changes", "looks"] ["self", "row", "changes", "looks"] (defScope s_p___init__) := ⟨rfl, rfl, rfl, by decide +kernel, rfl, by decide +kernel, by decide +kernel⟩
abbrev s_p___eq__ : Stmt := inClass (topS 40) 1
theorem sc_p___eq__ : FnScope ["self", "other"] ["self", "other"] (defScope s_p___eq__) := ⟨rfl, rfl, rfl, by decide +kernel, rfl, by decide +kernel, by decide +kernel⟩
abbrev s_u___init__ : Stmt := inClass (topS 41) 0
theorem sc_u___init__ : FnScope ["self", "row", "key"] ["self", "row", "key"] (defScope s_u___init__) := ⟨rfl, rfl, rfl, by decide +kernel, rfl, by decide +kernel, by decide +kernel⟩
abbrev s_u___eq__ : Stmt := inClass (topS 41) 1
theorem sc_u___eq__ : FnScope ["self", "other"] ["self", "other"] (defScope s_u___eq__) := ⟨rfl, rfl, rfl, by decide +kernel, rfl, by decide +kernel, by decide +kernel⟩
abbrev s_u_shows : Stmt := inClass (topS 41) 2
theorem sc_u_shows : FnScope ["self", "row", "place", "arms", "heap", "_", "sift"] ["self", "row", "place", "arms"] (defScope s_u_shows) := ⟨rfl, rfl, rfl, by decide +kernel, rfl, by decide +kernel, by decide +kernel⟩
abbrev s_y___init__ : Stmt := inClass (topS 42) 0
theorem sc_y___init__ : FnScope ["self", "place", "other"] ["self", "place", "other"] (defScope s_y___init__) := ⟨rfl, rfl, rfl, by decide +kernel, rfl, by decide +kernel, by decide +kernel⟩
abbrev s_y___eq__ : Stmt := inClass (topS 42) 1
theorem sc_y___eq__ : FnScope ["self", "other"] ["self", "other"] (defScope s_y___eq__) := ⟨rfl, rfl, rfl, by decide +kernel, rfl, by decide +kernel, by decide +kernel⟩
abbrev s_y_shows : Stmt := inClass (topS 42) 2
theorem sc_y_shows : FnScope ["self", "row", "place", "arms", "heap", "below", "tree"] ["self", "row", "place", "arms"] (defScope s_y_shows) := ⟨rfl, rfl, rfl, by decide +kernel, rfl, by decide +kernel, by decide +kernel⟩
abbrev s_push_all : Stmt := topS 43
theorem sc_push_all : FnScope ["keys", "arms", "tree", "heap", "changes", "looks", "place", "sift"] ["keys", "arms"] (defScope s_push_all) := ⟨rfl, rfl, rfl, by decide +kernel, rfl, by decide +kernel, by decide +kernel⟩
abbrev s_most_pushed : Stmt := topS 44
theorem sc_most_pushed : FnScope ["many", "arms", "tree", "place"] ["many", "arms"] (defScope s_most_pushed) := ⟨rfl, rfl, rfl, by decide +kernel, rfl, by decide +kernel, by decide +kernel⟩
abbrev s_undo_push : Stmt := topS 45
theorem sc_undo_push : FnScope ["row", "place", "arms", "below", "tree", "lower", "other", "before", "heap"] ["row", "place", "arms"] (defScope s_undo_push) := ⟨rfl, rfl, rfl, by decide +kernel, rfl, by decide +kernel, by decide +kernel⟩
abbrev s_last_places : Stmt := topS 46
theorem sc_last_places : FnScope ["row", "arms", "heap", "place"] ["row", "arms"] (defScope s_last_places) := ⟨rfl, rfl, rfl, by decide +kernel, rfl, by decide +kernel, by decide +kernel⟩
abbrev s_last_way : Stmt := topS 47
theorem sc_last_way : FnScope ["heap", "arms"] ["heap", "arms"] (defScope s_last_way) := ⟨rfl, rfl, rfl, by decide +kernel, rfl, by decide +kernel, by decide +kernel⟩
abbrev s_heap_and_way_below : Stmt := topS 48
theorem sc_heap_and_way_below : FnScope ["row", "place", "arms", "heap", "way"] ["row", "place", "arms"] (defScope s_heap_and_way_below) := ⟨rfl, rfl, rfl, by decide +kernel, rfl, by decide +kernel, by decide +kernel⟩
abbrev s__law_number : Stmt := topS 50
theorem sc__law_number : FnScope ["script", "index", "cells", "cell", "low", "high", "total", "blend"] ["script", "index"] (defScope s__law_number) := ⟨rfl, rfl, rfl, by decide +kernel, rfl, by decide +kernel, by decide +kernel⟩
abbrev s__law_take : Stmt := topS 51
theorem sc__law_take : FnScope ["draw", "many"] ["draw", "many"] (defScope s__law_take) := ⟨rfl, rfl, rfl, by decide +kernel, rfl, by decide +kernel, by decide +kernel⟩
abbrev s__law_pick : Stmt := topS 52
theorem sc__law_pick : FnScope ["draw", "things"] ["draw", "things"] (defScope s__law_pick) := ⟨rfl, rfl, rfl, by decide +kernel, rfl, by decide +kernel, by decide +kernel⟩
abbrev s__law_parent : Stmt := topS 53
theorem sc__law_parent : FnScope ["wide", "place"] ["wide", "place"] (defScope s__law_parent) := ⟨rfl, rfl, rfl, by decide +kernel, rfl, by decide +kernel, by decide +kernel⟩
abbrev s__law_children : Stmt := topS 54
theorem sc__law_children : FnScope ["wide", "many", "place", "other"] ["wide", "many", "place"] (defScope s__law_children) := ⟨rfl, rfl, rfl, by decide +kernel, rfl, by decide +kernel, by decide +kernel⟩
abbrev s__law_way : Stmt := topS 55
theorem sc__law_way : FnScope ["wide", "place", "way", "lap"] ["wide", "place"] (defScope s__law_way) := ⟨rfl, rfl, rfl, by decide +kernel, rfl, by decide +kernel, by decide +kernel⟩
abbrev s__law_arms : Stmt := topS 56
theorem sc__law_arms : FnScope ["draw"] ["draw"] (defScope s__law_arms) := ⟨rfl, rfl, rfl, by decide +kernel, rfl, by decide +kernel, by decide +kernel⟩
abbrev s__law_keys : Stmt := topS 57
theorem sc__law_keys : FnScope ["draw", "most", "span", "turn"] ["draw", "most", "span"] (defScope s__law_keys) := ⟨rfl, rfl, rfl, by decide +kernel, rfl, by decide +kernel, by decide +kernel⟩
abbrev s__law_order : Stmt := topS 58
theorem sc__law_order : FnScope ["draw", "many", "left", "order", "turn"] ["draw", "many"] (defScope s__law_order) := ⟨rfl, rfl, rfl, by decide +kernel, rfl, by decide +kernel, by decide +kernel⟩
abbrev s__law_is_heap : Stmt := topS 59
theorem sc__law_is_heap : FnScope ["row", "wide", "place", "above"] ["row", "wide"] (defScope s__law_is_heap) := ⟨rfl, rfl, rfl, by decide +kernel, rfl, by decide +kernel, by decide +kernel⟩
abbrev s__law_lists : Stmt := topS 60
theorem sc__law_lists : FnScope ["keys", "found", "at", "key", "rest", "row"] ["keys"] (defScope s__law_lists) := ⟨rfl, rfl, rfl, by decide +kernel, rfl, by decide +kernel, by decide +kernel⟩
abbrev s__law_heaps : Stmt := topS 61
theorem sc__law_heaps : FnScope ["keys", "wide", "row"] ["keys", "wide"] (defScope s__law_heaps) := ⟨rfl, rfl, rfl, by decide +kernel, rfl, by decide +kernel, by decide +kernel⟩
abbrev s__law_heap : Stmt := topS 62
theorem sc__law_heap : FnScope ["keys", "wide", "row", "key", "place", "lap", "above"] ["keys", "wide"] (defScope s__law_heap) := ⟨rfl, rfl, rfl, by decide +kernel, rfl, by decide +kernel, by decide +kernel⟩
abbrev s__law_up : Stmt := topS 63
theorem sc__law_up : FnScope ["row", "wide", "place", "late", "way", "looks", "lap", "here", "above"] ["row", "wide", "place"] (defScope s__law_up) := ⟨rfl, rfl, rfl, by decide +kernel, rfl, by decide +kernel, by decide +kernel⟩
abbrev s__law_pushed : Stmt := topS 64
theorem sc__law_pushed : FnScope ["keys", "wide", "row", "turns", "looks", "key", "way", "more"] ["keys", "wide"] (defScope s__law_pushed) := ⟨rfl, rfl, rfl, by decide +kernel, rfl, by decide +kernel, by decide +kernel⟩
abbrev s__law_unlike : Stmt := topS 65
theorem sc__law_unlike : FnScope ["draw", "many", "low", "step", "number"] ["draw", "many"] (defScope s__law_unlike) := ⟨rfl, rfl, rfl, by decide +kernel, rfl, by decide +kernel, by decide +kernel⟩
abbrev s__law_ahead : Stmt := topS 66
theorem sc__law_ahead : FnScope ["row", "wide", "place", "one", "key", "rest", "found", "late", "way", "looks"] ["row", "wide", "place"] (defScope s__law_ahead) := ⟨rfl, rfl, rfl, by decide +kernel, rfl, by decide +kernel, by decide +kernel⟩
abbrev s__law_undone_right : Stmt := topS 67
theorem sc__law_undone_right : FnScope ["row", "wide", "way", "able", "place", "found", "due", "brothers", "one"] ["row", "wide"] (defScope s__law_undone_right) := ⟨rfl, rfl, rfl, by decide +kernel, rfl, by decide +kernel, by decide +kernel⟩
abbrev s_law : Stmt := topS 68
theorem sc_law : FnScope ["script", "draw", "turn", "wide", "keys", "found", "others", "many", "most", "other", "place"] ["script"] (defScope s_law) := ⟨rfl, rfl, rfl, by decide +kernel, rfl, by decide +kernel, by decide +kernel⟩
/-- where the text's defs stand -/
structure Ad where
  f_is_integer : Addr
  d_is_integer : FuncData
  f_is_integer_from : Addr
  d_is_integer_from : FuncData
  f_is_key : Addr
  d_is_key : FuncData
  f_check_arms : Addr
  d_check_arms : FuncData
  f_check_many : Addr
  d_check_many : FuncData
  f_check_place : Addr
  d_check_place : FuncData
  f_check_key : Addr
  d_check_key : FuncData
  f_row_of : Addr
  d_row_of : FuncData
  f_check_different : Addr
  d_check_different : FuncData
  f_t___init__ : Addr
  d_t___init__ : FuncData
  f_t_of : Addr
  d_t_of : FuncData
  f_t___len__ : Addr
  d_t___len__ : FuncData
  f_t___contains__ : Addr
  d_t___contains__ : FuncData
  f_t___iter__ : Addr
  d_t___iter__ : FuncData
  f_t___getitem__ : Addr
  d_t___getitem__ : FuncData
  f_t_parent : Addr
  d_t_parent : FuncData
  f_t_way_to : Addr
  d_t_way_to : FuncData
  f_t_depth : Addr
  d_t_depth : FuncData
  f_is_heap : Addr
  d_is_heap : FuncData
  f_faults : Addr
  d_faults : FuncData
  f_heap_of : Addr
  d_heap_of : FuncData
  f_different_heap_of : Addr
  d_different_heap_of : FuncData
  f_z___init__ : Addr
  d_z___init__ : FuncData
  f_sift_up : Addr
  d_sift_up : FuncData
  f_row_before : Addr
  d_row_before : FuncData
  f_push : Addr
  d_push : FuncData
  f_check_filled : Addr
  d_check_filled : FuncData
  f_p___init__ : Addr
  d_p___init__ : FuncData
  f_p___eq__ : Addr
  d_p___eq__ : FuncData
  f_u___init__ : Addr
  d_u___init__ : FuncData
  f_u___eq__ : Addr
  d_u___eq__ : FuncData
  f_u_shows : Addr
  d_u_shows : FuncData
  f_y___init__ : Addr
  d_y___init__ : FuncData
  f_y___eq__ : Addr
  d_y___eq__ : FuncData
  f_y_shows : Addr
  d_y_shows : FuncData
  f_push_all : Addr
  d_push_all : FuncData
  f_most_pushed : Addr
  d_most_pushed : FuncData
  f_undo_push : Addr
  d_undo_push : FuncData
  f_last_places : Addr
  d_last_places : FuncData
  f_last_way : Addr
  d_last_way : FuncData
  f_heap_and_way_below : Addr
  d_heap_and_way_below : FuncData
  f__law_number : Addr
  d__law_number : FuncData
  f__law_take : Addr
  d__law_take : FuncData
  f__law_pick : Addr
  d__law_pick : FuncData
  f__law_parent : Addr
  d__law_parent : FuncData
  f__law_children : Addr
  d__law_children : FuncData
  f__law_way : Addr
  d__law_way : FuncData
  f__law_arms : Addr
  d__law_arms : FuncData
  f__law_keys : Addr
  d__law_keys : FuncData
  f__law_order : Addr
  d__law_order : FuncData
  f__law_is_heap : Addr
  d__law_is_heap : FuncData
  f__law_lists : Addr
  d__law_lists : FuncData
  f__law_heaps : Addr
  d__law_heaps : FuncData
  f__law_heap : Addr
  d__law_heap : FuncData
  f__law_up : Addr
  d__law_up : FuncData
  f__law_pushed : Addr
  d__law_pushed : FuncData
  f__law_unlike : Addr
  d__law_unlike : FuncData
  f__law_ahead : Addr
  d__law_ahead : FuncData
  f__law_undone_right : Addr
  d__law_undone_right : FuncData
  f_law : Addr
  d_law : FuncData
  C : Addr
  po : Addr
  CS : Addr
  CP : Addr
  CU : Addr
  CY : Addr
  c_undo_push : Addr
  P_undo_push : Addr
/-- what the top has written -/
structure Tx (K : PySem.W.Frag) (mg : Str → Option Value) (A : Ad) : Prop where
  F_is_integer : Fun K "is_integer" "is_integer" s_is_integer A.f_is_integer A.d_is_integer
  m_is_integer : mg "is_integer" = some (.ref A.f_is_integer)
  F_is_integer_from : Fun K "is_integer_from" "is_integer_from" s_is_integer_from A.f_is_integer_from A.d_is_integer_from
  m_is_integer_from : mg "is_integer_from" = some (.ref A.f_is_integer_from)
  F_is_key : Fun K "is_key" "is_key" s_is_key A.f_is_key A.d_is_key
  m_is_key : mg "is_key" = some (.ref A.f_is_key)
  F_check_arms : Fun K "check_arms" "check_arms" s_check_arms A.f_check_arms A.d_check_arms
  m_check_arms : mg "check_arms" = some (.ref A.f_check_arms)
  F_check_many : Fun K "check_many" "check_many" s_check_many A.f_check_many A.d_check_many
  m_check_many : mg "check_many" = some (.ref A.f_check_many)
  F_check_place : Fun K "check_place" "check_place" s_check_place A.f_check_place A.d_check_place
  m_check_place : mg "check_place" = some (.ref A.f_check_place)
  F_check_key : Fun K "check_key" "check_key" s_check_key A.f_check_key A.d_check_key
  m_check_key : mg "check_key" = some (.ref A.f_check_key)
  F_row_of : Fun K "row_of" "row_of" s_row_of A.f_row_of A.d_row_of
  m_row_of : mg "row_of" = some (.ref A.f_row_of)
  F_check_different : Fun K "check_different" "check_different" s_check_different A.f_check_different A.d_check_different
  m_check_different : mg "check_different" = some (.ref A.f_check_different)
  F_t___init__ : FunD K "__init__" "Tree.__init__" (defArgs s_t___init__) (defBody s_t___init__) (defScope s_t___init__) [] [("arms", V.int 2)] A.f_t___init__ A.d_t___init__
  F_t_of : FunD K "of" "Tree.of" (defArgs s_t_of) (defBody s_t_of) (defScope s_t_of) [] [("arms", V.int 2)] A.f_t_of A.d_t_of
  F_t___len__ : Fun K "__len__" "Tree.__len__" s_t___len__ A.f_t___len__ A.d_t___len__
  D_t___len__ : Dn K A.C "__len__" A.f_t___len__
  F_t___contains__ : Fun K "__contains__" "Tree.__contains__" s_t___contains__ A.f_t___contains__ A.d_t___contains__
  D_t___contains__ : Dn K A.C "__contains__" A.f_t___contains__
  F_t___iter__ : Fun K "__iter__" "Tree.__iter__" s_t___iter__ A.f_t___iter__ A.d_t___iter__
  D_t___iter__ : Dn K A.C "__iter__" A.f_t___iter__
  F_t___getitem__ : Fun K "__getitem__" "Tree.__getitem__" s_t___getitem__ A.f_t___getitem__ A.d_t___getitem__
  D_t___getitem__ : Dn K A.C "__getitem__" A.f_t___getitem__
  F_t_parent : Fun K "parent" "Tree.parent" s_t_parent A.f_t_parent A.d_t_parent
  M_t_parent : Meth K A.C "parent" A.f_t_parent
  F_t_way_to : Fun K "way_to" "Tree.way_to" s_t_way_to A.f_t_way_to A.d_t_way_to
  M_t_way_to : Meth K A.C "way_to" A.f_t_way_to
  F_t_depth : Fun K "depth" "Tree.depth" s_t_depth A.f_t_depth A.d_t_depth
  M_t_depth : Meth K A.C "depth" A.f_t_depth
  F_is_heap : FunD K "is_heap" "is_heap" (defArgs s_is_heap) (defBody s_is_heap) (defScope s_is_heap) [] [("arms", V.int 2)] A.f_is_heap A.d_is_heap
  m_is_heap : mg "is_heap" = some (.ref A.f_is_heap)
  F_faults : FunD K "faults" "faults" (defArgs s_faults) (defBody s_faults) (defScope s_faults) [] [("arms", V.int 2)] A.f_faults A.d_faults
  m_faults : mg "faults" = some (.ref A.f_faults)
  F_heap_of : Fun K "heap_of" "heap_of" s_heap_of A.f_heap_of A.d_heap_of
  m_heap_of : mg "heap_of" = some (.ref A.f_heap_of)
  F_different_heap_of : Fun K "different_heap_of" "different_heap_of" s_different_heap_of A.f_different_heap_of A.d_different_heap_of
  m_different_heap_of : mg "different_heap_of" = some (.ref A.f_different_heap_of)
  F_z___init__ : Fun K "__init__" "Sift.__init__" s_z___init__ A.f_z___init__ A.d_z___init__
  F_sift_up : FunD K "sift_up" "sift_up" (defArgs s_sift_up) (defBody s_sift_up) (defScope s_sift_up) [] [("arms", V.int 2)] A.f_sift_up A.d_sift_up
  m_sift_up : mg "sift_up" = some (.ref A.f_sift_up)
  F_row_before : Fun K "row_before" "row_before" s_row_before A.f_row_before A.d_row_before
  m_row_before : mg "row_before" = some (.ref A.f_row_before)
  F_push : FunD K "push" "push" (defArgs s_push) (defBody s_push) (defScope s_push) [] [("arms", V.int 2)] A.f_push A.d_push
  m_push : mg "push" = some (.ref A.f_push)
  F_check_filled : Fun K "check_filled" "check_filled" s_check_filled A.f_check_filled A.d_check_filled
  m_check_filled : mg "check_filled" = some (.ref A.f_check_filled)
  F_p___init__ : Fun K "__init__" "Pushed.__init__" s_p___init__ A.f_p___init__ A.d_p___init__
  F_p___eq__ : Fun K "__eq__" "Pushed.__eq__" s_p___eq__ A.f_p___eq__ A.d_p___eq__
  F_u___init__ : Fun K "__init__" "Undone.__init__" s_u___init__ A.f_u___init__ A.d_u___init__
  F_u___eq__ : Fun K "__eq__" "Undone.__eq__" s_u___eq__ A.f_u___eq__ A.d_u___eq__
  F_u_shows : FunD K "shows" "Undone.shows" (defArgs s_u_shows) (defBody s_u_shows) (defScope s_u_shows) [] [("arms", V.int 2)] A.f_u_shows A.d_u_shows
  M_u_shows : Meth K A.CU "shows" A.f_u_shows
  F_y___init__ : Fun K "__init__" "Stuck.__init__" s_y___init__ A.f_y___init__ A.d_y___init__
  F_y___eq__ : Fun K "__eq__" "Stuck.__eq__" s_y___eq__ A.f_y___eq__ A.d_y___eq__
  F_y_shows : FunD K "shows" "Stuck.shows" (defArgs s_y_shows) (defBody s_y_shows) (defScope s_y_shows) [] [("arms", V.int 2)] A.f_y_shows A.d_y_shows
  M_y_shows : Meth K A.CY "shows" A.f_y_shows
  F_push_all : FunD K "push_all" "push_all" (defArgs s_push_all) (defBody s_push_all) (defScope s_push_all) [] [("arms", V.int 2)] A.f_push_all A.d_push_all
  m_push_all : mg "push_all" = some (.ref A.f_push_all)
  F_most_pushed : FunD K "most_pushed" "most_pushed" (defArgs s_most_pushed) (defBody s_most_pushed) (defScope s_most_pushed) [] [("arms", V.int 2)] A.f_most_pushed A.d_most_pushed
  m_most_pushed : mg "most_pushed" = some (.ref A.f_most_pushed)
  L_undo_push : ∃ (oc : Value) (od : Option Addr) (kV doc pm : Value) (an : Option Addr) (ct : Value) (osl : Array (Option Value)), A.d_undo_push = PySem.W.fnOf "undo_push" "undo_push" (defArgs s_undo_push) (defBody s_undo_push) (defScope s_undo_push) .none kV doc pm an (.ref A.c_undo_push) ct ∧ K.lookup A.f_undo_push = some ⟨oc, od, .func A.d_undo_push, osl⟩ ∧ PySem.W.codeIn K (.ref A.c_undo_push) "undo_push" = true
  F_undo_push : FunD K "undo_push" "undo_push" (defArgs s_undo_push) (defBody s_undo_push) (defScope s_undo_push) [] [("arms", V.int 2)] A.f_undo_push A.d_undo_push
  m_undo_push : mg "undo_push" = some (.ref A.f_undo_push)
  F_last_places : FunD K "last_places" "last_places" (defArgs s_last_places) (defBody s_last_places) (defScope s_last_places) [] [("arms", V.int 2)] A.f_last_places A.d_last_places
  m_last_places : mg "last_places" = some (.ref A.f_last_places)
  F_last_way : Fun K "last_way" "last_way" s_last_way A.f_last_way A.d_last_way
  m_last_way : mg "last_way" = some (.ref A.f_last_way)
  F_heap_and_way_below : Fun K "heap_and_way_below" "heap_and_way_below" s_heap_and_way_below A.f_heap_and_way_below A.d_heap_and_way_below
  m_heap_and_way_below : mg "heap_and_way_below" = some (.ref A.f_heap_and_way_below)
  F__law_number : Fun K "_law_number" "_law_number" s__law_number A.f__law_number A.d__law_number
  m__law_number : mg "_law_number" = some (.ref A.f__law_number)
  F__law_take : Fun K "_law_take" "_law_take" s__law_take A.f__law_take A.d__law_take
  m__law_take : mg "_law_take" = some (.ref A.f__law_take)
  F__law_pick : Fun K "_law_pick" "_law_pick" s__law_pick A.f__law_pick A.d__law_pick
  m__law_pick : mg "_law_pick" = some (.ref A.f__law_pick)
  F__law_parent : Fun K "_law_parent" "_law_parent" s__law_parent A.f__law_parent A.d__law_parent
  m__law_parent : mg "_law_parent" = some (.ref A.f__law_parent)
  F__law_children : Fun K "_law_children" "_law_children" s__law_children A.f__law_children A.d__law_children
  m__law_children : mg "_law_children" = some (.ref A.f__law_children)
  F__law_way : Fun K "_law_way" "_law_way" s__law_way A.f__law_way A.d__law_way
  m__law_way : mg "_law_way" = some (.ref A.f__law_way)
  F__law_arms : Fun K "_law_arms" "_law_arms" s__law_arms A.f__law_arms A.d__law_arms
  m__law_arms : mg "_law_arms" = some (.ref A.f__law_arms)
  F__law_keys : Fun K "_law_keys" "_law_keys" s__law_keys A.f__law_keys A.d__law_keys
  m__law_keys : mg "_law_keys" = some (.ref A.f__law_keys)
  F__law_order : Fun K "_law_order" "_law_order" s__law_order A.f__law_order A.d__law_order
  m__law_order : mg "_law_order" = some (.ref A.f__law_order)
  F__law_is_heap : Fun K "_law_is_heap" "_law_is_heap" s__law_is_heap A.f__law_is_heap A.d__law_is_heap
  m__law_is_heap : mg "_law_is_heap" = some (.ref A.f__law_is_heap)
  F__law_lists : Fun K "_law_lists" "_law_lists" s__law_lists A.f__law_lists A.d__law_lists
  m__law_lists : mg "_law_lists" = some (.ref A.f__law_lists)
  F__law_heaps : Fun K "_law_heaps" "_law_heaps" s__law_heaps A.f__law_heaps A.d__law_heaps
  m__law_heaps : mg "_law_heaps" = some (.ref A.f__law_heaps)
  F__law_heap : Fun K "_law_heap" "_law_heap" s__law_heap A.f__law_heap A.d__law_heap
  m__law_heap : mg "_law_heap" = some (.ref A.f__law_heap)
  F__law_up : Fun K "_law_up" "_law_up" s__law_up A.f__law_up A.d__law_up
  m__law_up : mg "_law_up" = some (.ref A.f__law_up)
  F__law_pushed : Fun K "_law_pushed" "_law_pushed" s__law_pushed A.f__law_pushed A.d__law_pushed
  m__law_pushed : mg "_law_pushed" = some (.ref A.f__law_pushed)
  F__law_unlike : Fun K "_law_unlike" "_law_unlike" s__law_unlike A.f__law_unlike A.d__law_unlike
  m__law_unlike : mg "_law_unlike" = some (.ref A.f__law_unlike)
  F__law_ahead : Fun K "_law_ahead" "_law_ahead" s__law_ahead A.f__law_ahead A.d__law_ahead
  m__law_ahead : mg "_law_ahead" = some (.ref A.f__law_ahead)
  F__law_undone_right : Fun K "_law_undone_right" "_law_undone_right" s__law_undone_right A.f__law_undone_right A.d__law_undone_right
  m__law_undone_right : mg "_law_undone_right" = some (.ref A.f__law_undone_right)
  F_law : Fun K "law" "law" s_law A.f_law A.d_law
  m_law : mg "law" = some (.ref A.f_law)
  c_GREATEST_KEY : mg "GREATEST_KEY" = some (.int 1000000000 0) ∨ ∃ t, mg "GREATEST_KEY" = some (.int 1000000000 t)
  c_MOST_ARMS : mg "MOST_ARMS" = some (.int 4 0) ∨ ∃ t, mg "MOST_ARMS" = some (.int 4 t)
  c_MOST_PLACES : mg "MOST_PLACES" = some (.int 12 0) ∨ ∃ t, mg "MOST_PLACES" = some (.int 12 t)
  g_any : mg "any" = none
  g_bool : mg "bool" = none
  g_enumerate : mg "enumerate" = none
  g_int : mg "int" = none
  g_isinstance : mg "isinstance" = none
  g_iter : mg "iter" = none
  g_len : mg "len" = none
  g_list : mg "list" = none
  g_min : mg "min" = none
  g_range : mg "range" = none
  g_reversed : mg "reversed" = none
  g_sorted : mg "sorted" = none
  g_sum : mg "sum" = none
  g_tuple : mg "tuple" = none
  g_zip : mg "zip" = none
  cT : Cls K A.C
  nMany : NoAttr K A.C "many"
  nArms : NoAttr K A.C "arms"
  nPl : NoAttr K A.C "_places"
  mC : mg "Tree" = some (.ref A.C)
  mkC : Mk K A.C A.f_t___init__
  cr : ClX.CRead K A.C (.type "type")
  cof : ClX.CMet K A.C (.type "type") "of" A.po A.f_t_of
  cTS : Cls K A.CS
  nRow : NoAttr K A.CS "row"
  nWay : NoAttr K A.CS "way"
  nLooks : NoAttr K A.CS "looks"
  mCS : mg "Sift" = some (.ref A.CS)
  mkCS : Mk K A.CS A.f_z___init__
  cTP : Cls K A.CP
  pRow : NoAttr K A.CP "row"
  pChanges : NoAttr K A.CP "changes"
  pLooks : NoAttr K A.CP "looks"
  mCP : mg "Pushed" = some (.ref A.CP)
  mkCP : Mk K A.CP A.f_p___init__
  eqcP : EqC K A.CP A.f_p___eq__
  kaP : PySem.W.findIn K (.ref A.CP) "__class__" = some (some (.builtin "object.__class__"))
  knP : PySem.W.specialIn K (.builtin "object.__class__") "__get__" = some (some (.builtin "getset_descriptor.__get__"))
  ktkP : PySem.W.takesIn K (.builtin "object.__class__") = some true
  kmP : PySem.W.mroIn K A.CP (.type "object") = some true
  kiP_int : PySem.W.kitOne K (.type "int") (.ref A.CP) = some false
  kiP_tuple : PySem.W.kitOne K (.type "tuple") (.ref A.CP) = some false
  cTU : Cls K A.CU
  uRow : NoAttr K A.CU "row"
  uKey : NoAttr K A.CU "key"
  mCU : mg "Undone" = some (.ref A.CU)
  mkCU : Mk K A.CU A.f_u___init__
  eqcU : EqC K A.CU A.f_u___eq__
  kaU : PySem.W.findIn K (.ref A.CU) "__class__" = some (some (.builtin "object.__class__"))
  knU : PySem.W.specialIn K (.builtin "object.__class__") "__get__" = some (some (.builtin "getset_descriptor.__get__"))
  ktkU : PySem.W.takesIn K (.builtin "object.__class__") = some true
  kmU : PySem.W.mroIn K A.CU (.type "object") = some true
  kiU_int : PySem.W.kitOne K (.type "int") (.ref A.CU) = some false
  kiU_tuple : PySem.W.kitOne K (.type "tuple") (.ref A.CU) = some false
  nfU_CY : PySem.W.notFirst K A.CU (.ref A.CY) = true
  kiU_CY : PySem.W.kitOne K (.ref A.CY) (.ref A.CU) = some false
  cTY : Cls K A.CY
  yPlace : NoAttr K A.CY "place"
  yOther : NoAttr K A.CY "other"
  mCY : mg "Stuck" = some (.ref A.CY)
  mkCY : Mk K A.CY A.f_y___init__
  eqcY : EqC K A.CY A.f_y___eq__
  kaY : PySem.W.findIn K (.ref A.CY) "__class__" = some (some (.builtin "object.__class__"))
  knY : PySem.W.specialIn K (.builtin "object.__class__") "__get__" = some (some (.builtin "getset_descriptor.__get__"))
  ktkY : PySem.W.takesIn K (.builtin "object.__class__") = some true
  kmY : PySem.W.mroIn K A.CY (.type "object") = some true
  kiY_int : PySem.W.kitOne K (.type "int") (.ref A.CY) = some false
  kiY_tuple : PySem.W.kitOne K (.type "tuple") (.ref A.CY) = some false
  nfY_CU : PySem.W.notFirst K A.CY (.ref A.CU) = true
  kiY_CU : PySem.W.kitOne K (.ref A.CU) (.ref A.CY) = some false
def TT (A : Ad) : List (Addr × Str) := [(A.P_undo_push, ("undo_push" : Str) ++ ".<locals>." ++ "<lambda>")]

end Tw

set_option Elab.async false
set_option linter.all false
set_option maxRecDepth 100000
set_option maxHeartbeats 2000000
namespace Tw
open PySem PySem.Spec PyProof.Rows L2
section
variable {P : Program} {w : World} {K : PySem.W.Frag} {mg : Str → Option Value} {base : Heap} {A : Ad}
open LamX (ExtN Tabs TabS)
theorem extN_of {H H' : Hp} (s : Same H H') : ExtN H H' := fun b o e _ => s b o e
theorem int_deq (a b : Int) : decide (V.int a = V.int b) = decide (a = b) := by
  by_cases h : a = b
  · rw [decide_eq_true h, decide_eq_true (by rw [h])]
  · rw [decide_eq_false h, decide_eq_false fun z => h (by injection z)]
theorem ints_all : ∀ ks ms : List Int, PyData.eqvAll (ks.map PyData.int) (ms.map PyData.int) = decide (ks = ms)
  | [], [] => by simp [PyData.eqvAll]
  | [], m :: ms => by simp [PyData.eqvAll]
  | k :: ks, [] => by simp [PyData.eqvAll]
  | k :: ks, m :: ms => by
    simp only [List.map_cons, PyData.eqvAll, ints_all ks ms, PyData.eqv]
    by_cases h1 : k = m
    · by_cases h2 : ks = ms <;> simp [h1, h2]
    · simp [h1]
theorem ints_eqv (ks ms : List Int) : PyData.eqv (.tuple (ks.map PyData.int)) (.tuple (ms.map PyData.int)) = decide (ks = ms) := by
  rw [← ints_all]
  simp [PyData.eqv]
theorem shaped_ints (ns : List Int) : SeqAt.shaped (.list (ns.map PyData.int)) = true := by
  have h1 : ∀ ms : List Int, PyData.canLayAll0 (ms.map PyData.int) = true := fun ms => by
    induction ms with
    | nil => rfl
    | cons m ms ih => rw [List.map_cons, PyData.canLayAll0, ih]; rfl
  have h2 : ∀ ms : List Int, PyData.depthAll (ms.map PyData.int) ≤ 1 := fun ms => by
    induction ms with
    | nil => simp [PyData.depthAll]
    | cons m ms ih =>
      simp only [List.map_cons, PyData.depthAll, PyData.depth]
      omega
  have h3 : PyData.depth (.list (ns.map PyData.int)) ≤ 64 := by
    have := h2 ns
    simp only [PyData.depth]
    omega
  unfold SeqAt.shaped
  rw [decide_eq_true h3, Bool.and_true]
  simp only [PyData.canLay0]
  exact h1 ns
theorem ints_shT (ks : List Int) : SeqAt.shaped (.tuple (ks.map PyData.int)) = true := by
  have h := shaped_ints ks
  unfold SeqAt.shaped at h ⊢
  simp only [PyData.canLay0, PyData.depth] at h ⊢
  exact h
theorem ints_dp (K : PySem.W.Frag) (H : Hp) : ∀ ns : List Int, DpAll K H (ns.map V.int) (ns.map PyData.int)
  | [] => .nil
  | n :: ns => .cons (.int n) (ints_dp K H ns)
theorem ints_tup (K : PySem.W.Frag) {H : Hp} {a : Addr} {ks : List Int} (h : H a = some (.tup (ks.map V.int))) : Dp K H (.ref a) (.tuple (ks.map PyData.int)) := .tup (SqT.of h) (ints_dp K H ks)
end
end Tw

set_option Elab.async false
set_option linter.all false
set_option maxRecDepth 100000
set_option maxHeartbeats 2000000
namespace Tw
open PySem PySem.Spec PyProof.Rows L2
section
variable {P : Program} {w : World} {K : PySem.W.Frag} {mg : Str → Option Value} {base : Heap} {A : Ad}
open LamX (ExtN Tabs TabS)
/-! Pushed -/
def fdP (v0 v1 v2 : V) : List (Str × V) := putF "looks" v2 (putF "changes" v1 (putF "row" v0 (([] : List (Str × V)))))
theorem fdP_row (v0 v1 v2 : V) : (fdP v0 v1 v2).lookup ("row" : Str) = some v0 := by
  unfold fdP
  rw [lookup_putF, if_neg (by decide +kernel), lookup_putF, if_neg (by decide +kernel), lookup_putF, if_pos rfl]
theorem fdP_changes (v0 v1 v2 : V) : (fdP v0 v1 v2).lookup ("changes" : Str) = some v1 := by
  unfold fdP
  rw [lookup_putF, if_neg (by decide +kernel), lookup_putF, if_pos rfl]
theorem fdP_looks (v0 v1 v2 : V) : (fdP v0 v1 v2).lookup ("looks" : Str) = some v2 := by
  unfold fdP
  rw [lookup_putF, if_pos rfl]
def AtP (C : Addr) (H : Hp) (p : Addr) (x0 : List Int) (x1 : Int) (x2 : Int) : Prop := ∃ (dx t0 : Addr), H p = some (.ins C dx (fdP (.ref t0) (.int x1) (.int x2))) ∧ H t0 = some (.tup (x0.map V.int))
theorem AtP.ext {C : Addr} {H H' : Hp} {p : Addr} {x0 : List Int} {x1 : Int} {x2 : Int} (h : AtP C H p x0 x1 x2) (e : LamX.ExtN H H') : AtP C H' p x0 x1 x2 := let ⟨dx, t0, h, e0⟩ := h; ⟨dx, t0, e _ _ h (fun _ z => nomatch z), e _ _ e0 (fun _ z => nomatch z)⟩
theorem AtP.same {C : Addr} {H H' : Hp} {p : Addr} {x0 : List Int} {x1 : Int} {x2 : Int} (h : AtP C H p x0 x1 x2) (s : Same H H') : AtP C H' p x0 x1 x2 := h.ext (extN_of s)
theorem AtP.ins {C : Addr} {H : Hp} {p : Addr} {x0 : List Int} {x1 : Int} {x2 : Int} (h : AtP C H p x0 x1 x2) : ∃ dx fs, H p = some (.ins C dx fs) := let ⟨dx, t0, h, e0⟩ := h; ⟨dx, _, h⟩
def spIP (C : Addr) : Sp := fun vs H Q _ => ∃ (p dx a0 : Nat) (x0 : List Int) (x1 : Int) (x2 : Int), vs = [.ref p, .ref a0, .int x1, .int x2] ∧ H p = some (.ins C dx []) ∧ (H a0 = some (.lst (x0.map V.int)) ∨ H a0 = some (.tup (x0.map V.int))) ∧ ∀ (H' : Hp), (∀ b o, H b = some o → b ≠ p → H' b = some o) → AtP C H' p x0 x1 x2 → Q .non H'
theorem ok_iP (T : Tx K mg A) : FnOk P w K mg base CX0 1 A.f_p___init__ A.d_p___init__ ["self", "row", "changes", "looks"] (spIP A.CP) := by
  refine T.F_p___init__.ok sc_p___init__ (fun vs H Q E h => ?_) (fun cdv B outer s H vs Q E hr h => ?_)
  · obtain ⟨p, dx, a0, x0, x1, x2, rfl, _⟩ := h
    rfl
  · obtain ⟨p, dx, a0, x0, x1, x2, rfl, hp, ha0, q⟩ := h
    refine ⟨_, (pss_cons (ps_fld (pv 0) (pe_callTy (r := rTupU) call_tupU (by rfl) T.g_tuple (by decide +kernel) (pa_cons (pv 1) pa_nil)) rfl)
      (pss_cons (ps_fld (pv 0) (pv 2) rfl)
      (pss_one (ps_fld (pv 0) (pv 3) rfl)))), ?_⟩
    have fr : ∀ b o, H b = some o → b ≠ p → H b = some o := fun b o e _ => e
    refine ⟨_, rfl, a0, _, rfl, ha0, fun t0 G0 s0 e0 => ?_⟩
    have hp := s0 _ _ hp
    have fr : ∀ b o, H b = some o → b ≠ p → G0 b = some o := fun b o e n => s0 _ _ (fr b o e n)
    refine ⟨_, rfl, p, A.CP, dx, _, rfl, hp, T.cTP, T.pRow, (by show 0 < 1000; decide), ?_⟩
    have fr : ∀ b o, H b = some o → b ≠ p → (upd G0 p (.ins A.CP dx (putF "row" (.ref t0) ([])))) b = some o := fun b o e n => by rw [upd_ne n]; exact fr b o e n
    have e0 : (upd G0 p (.ins A.CP dx (putF "row" (.ref t0) ([])))) t0 = _ := (upd_ne (ne_of e0 hp (by intro z; cases z))).trans e0
    have hp : (upd G0 p (.ins A.CP dx (putF "row" (.ref t0) ([])))) p = _ := upd_same
    generalize upd G0 p (.ins A.CP dx (putF "row" (.ref t0) ([]))) = U0 at fr hp e0
    refine ⟨_, rfl, _, rfl, p, A.CP, dx, _, rfl, hp, T.cTP, T.pChanges, (by show 1 < 1000; decide), ?_⟩
    have fr : ∀ b o, H b = some o → b ≠ p → (upd U0 p (.ins A.CP dx (putF "changes" (.int x1) (putF "row" (.ref t0) ([]))))) b = some o := fun b o e n => by rw [upd_ne n]; exact fr b o e n
    have e0 : (upd U0 p (.ins A.CP dx (putF "changes" (.int x1) (putF "row" (.ref t0) ([]))))) t0 = _ := (upd_ne (ne_of e0 hp (by intro z; cases z))).trans e0
    have hp : (upd U0 p (.ins A.CP dx (putF "changes" (.int x1) (putF "row" (.ref t0) ([]))))) p = _ := upd_same
    generalize upd U0 p (.ins A.CP dx (putF "changes" (.int x1) (putF "row" (.ref t0) ([])))) = U1 at fr hp e0
    refine ⟨_, rfl, _, rfl, p, A.CP, dx, _, rfl, hp, T.cTP, T.pLooks, (by show 2 < 1000; decide), ?_⟩
    have fr : ∀ b o, H b = some o → b ≠ p → (upd U1 p (.ins A.CP dx (putF "looks" (.int x2) (putF "changes" (.int x1) (putF "row" (.ref t0) ([])))))) b = some o := fun b o e n => by rw [upd_ne n]; exact fr b o e n
    have e0 : (upd U1 p (.ins A.CP dx (putF "looks" (.int x2) (putF "changes" (.int x1) (putF "row" (.ref t0) ([])))))) t0 = _ := (upd_ne (ne_of e0 hp (by intro z; cases z))).trans e0
    have hp : (upd U1 p (.ins A.CP dx (putF "looks" (.int x2) (putF "changes" (.int x1) (putF "row" (.ref t0) ([])))))) p = _ := upd_same
    exact q _ fr ⟨dx, t0, hp, e0⟩
theorem b_iP (T : Tx K mg A) : L2.Binds K A.d_p___init__ ["self", "row", "changes", "looks"] [] := T.F_p___init__.binds fun _ _ _ _ _ _ us hl => match us, hl with | [_, _, _, _], _ => rfl
def spEP (K : PySem.W.Frag) (C : Addr) : Sp := fun vs H Q _ => ∃ (o : Addr) (y : V) (x0 : List Int) (x1 : Int) (x2 : Int), vs = [.ref o, y] ∧ AtP C H o x0 x1 x2 ∧ ((∃ (b : Addr) (y0 : List Int) (y1 : Int) (y2 : Int), y = .ref b ∧ AtP C H b y0 y1 y2 ∧ Q (.bl (decide (x0 = y0 ∧ x1 = y1 ∧ x2 = y2))) H) ∨
  (∃ u, TyX K H y u ∧ PySem.W.kitOne K u (.ref C) = some false ∧ Q (.bl false) H))
theorem ok_eP (T : Tx K mg A) : FnOk P w K mg base CX0 1 A.f_p___eq__ A.d_p___eq__ ["self", "other"] (spEP K A.CP) := by
  refine T.F_p___eq__.ok sc_p___eq__ (fun vs H Q E h => ?_) (fun cdv B outer s H vs Q E hr h => ?_)
  · obtain ⟨o, y, x0, x1, x2, rfl, _⟩ := h
    rfl
  · obtain ⟨o, y, x0, x1, x2, rfl, ⟨dx, t0, g, e0⟩, h⟩ := h
    have hu := hr.units
    refine ⟨_, (pss_one (ps_ret (pe_and (pe_callB (r := rIsi K) call_isi (by rfl) T.g_isinstance (by decide +kernel) (pa_cons (pv 1) (pa_cons (pe_glob (v := .ref A.CP) (by rfl) T.mCP (relR _)) pa_nil))) (pe_and (pe_cmpR (op_eqD hu) (pe_fld (pv 0) rfl) (pe_fld (pv 1) rfl) (nomark _)) (pe_and (pe_cmpR op_eq (pe_fld (pv 0) rfl) (pe_fld (pv 1) rfl) (nomark _)) (pe_one (pe_cmpR op_eq (pe_fld (pv 0) rfl) (pe_fld (pv 1) rfl) (nomark _)))))))), ?_⟩
    rcases h with ⟨b, y0, y1, y2, rfl, ⟨dy, u0, k, f0⟩, q⟩ | ⟨u, ty, kt, q⟩
    · refine ⟨_, rfl, _, _, .ref A.CP, _, true, rfl, .own A.CP, .base (.ins k T.cTP T.kaP T.knP T.ktkP T.kmP), (by unfold PySem.W.kitOne; rw [if_pos (by simp)]), true, rfl, iteT ?_⟩
      refine ⟨_, rfl, o, A.CP, dx, _, _, rfl, g, T.cTP, T.pRow, fdP_row _ _ _, _, rfl, b, A.CP, dy, _, _, rfl, k, T.cTP, T.pRow, fdP_row _ _ _, _, _, ints_tup K e0, ints_tup K f0, ints_shT _, ints_shT _, _, rfl, ?_⟩
      rw [ints_eqv]
      by_cases h0 : x0 = y0
      case neg =>
        rw [decide_eq_false h0]
        rw [decide_eq_false (show ¬ (x0 = y0 ∧ x1 = y1 ∧ x2 = y2) from fun z => h0 (by simp only [z]))] at q
        exact iteF q
      rw [decide_eq_true h0]
      refine iteT ?_
      refine ⟨_, rfl, o, A.CP, dx, _, _, rfl, g, T.cTP, T.pChanges, fdP_changes _ _ _, _, rfl, b, A.CP, dy, _, _, rfl, k, T.cTP, T.pChanges, fdP_changes _ _ _, rfl, _, rfl, ?_⟩
      rw [int_deq]
      by_cases h1 : x1 = y1
      case neg =>
        rw [decide_eq_false h1]
        rw [decide_eq_false (show ¬ (x0 = y0 ∧ x1 = y1 ∧ x2 = y2) from fun z => h1 (by simp only [z]))] at q
        exact iteF q
      rw [decide_eq_true h1]
      refine iteT ?_
      refine ⟨_, rfl, o, A.CP, dx, _, _, rfl, g, T.cTP, T.pLooks, fdP_looks _ _ _, _, rfl, b, A.CP, dy, _, _, rfl, k, T.cTP, T.pLooks, fdP_looks _ _ _, rfl, ?_⟩
      rw [int_deq]
      have ed : decide (x0 = y0 ∧ x1 = y1 ∧ x2 = y2) = decide (x2 = y2) := by simp [h0, h1]
      rw [ed] at q
      exact q
    · exact ⟨_, rfl, _, _, u, _, false, rfl, .own A.CP, ty, kt, false, rfl, iteF q⟩
theorem b_eP (T : Tx K mg A) : L2.Binds K A.d_p___eq__ ["self", "other"] [] := T.F_p___eq__.binds fun _ _ _ _ _ _ us hl => match us, hl with | [_, _], _ => rfl

end
end Tw

set_option Elab.async false
set_option linter.all false
set_option maxRecDepth 100000
set_option maxHeartbeats 2000000
namespace Tw
open PySem PySem.Spec PyProof.Rows L2
section
variable {P : Program} {w : World} {K : PySem.W.Frag} {mg : Str → Option Value} {base : Heap} {A : Ad}
open LamX (ExtN Tabs TabS)
/-- the children as the law looks for them -/
def kidL (n w i : Nat) : List Nat := ((List.range (n - 1)).filter fun j => decide (j / w = i)).map (· + 1)
/-- a way down from a place -/
def Down (n w : Nat) : Nat → List Nat → Prop
  | _, [] => True
  | p, b :: l => b ∈ kidL n w p ∧ Down n w b l
def insA (x : Int) : List Int → List Int
  | [] => [x]
  | y :: l => if x < y then x :: y :: l else if x = y then y :: l else y :: insA x l
/-- the different keys, ascending -/
def ascL (l : List Int) : List Int := l.foldr insA []
/-- the keys that are left -/
def leftL (ks ps : List Int) : List Int := ps.foldl (fun l u => l.erase u) ks
def okNext (ps : List Int) (par : Option Nat) (x : Int) : Bool := match par with
  | none => true
  | some p => decide (ps.getD p 0 ≤ x)
def nextL (ks ps : List Int) (par : Option Nat) : List Int := (ascL (leftL ks ps)).filter (okNext ps par)
def parO (w i : Nat) : Option Nat := if i = 0 then none else some ((i - 1) / w)
def extL (ks : List Int) (w : Nat) : Nat → List (List Int)
  | 0 => [[]]
  | i + 1 => (extL ks w i).flatMap fun p => (nextL ks p (parO w i)).map fun x => p ++ [x]
def allH (ks : List Int) (w : Nat) : List (List Int) := extL ks w ks.length
def permsL : Nat → List Int → List (List Int)
  | 0, _ => [[]]
  | n + 1, l => (ascL l).flatMap fun x => (permsL n (l.erase x)).map fun s => x :: s
theorem left_snoc (ks ps : List Int) (u : Int) : leftL ks (ps ++ [u]) = (leftL ks ps).erase u := by
  unfold leftL
  rw [List.foldl_append]
  rfl
theorem left_perm : ∀ {ps ks rest : List Int}, ks.Perm (ps ++ rest) → (leftL ks ps).Perm rest
  | [], ks, rest, h => h
  | u :: ps, ks, rest, h => by
    refine left_perm (ps := ps) (ks := ks.erase u) ?_
    have e := h.erase u
    rw [List.cons_append, List.erase_cons_head] at e
    exact e
theorem insA_mem {x y : Int} : ∀ {l : List Int}, y ∈ insA x l ↔ y = x ∨ y ∈ l
  | [] => by simp [insA]
  | z :: l => by
    unfold insA
    by_cases h1 : x < z
    · rw [if_pos h1, List.mem_cons]
    · rw [if_neg h1]
      by_cases h2 : x = z
      · rw [if_pos h2]
        subst h2
        simp
      · rw [if_neg h2, List.mem_cons, insA_mem (l := l), List.mem_cons]
        exact ⟨fun h => by rcases h with h | h | h <;> simp [h], fun h => by rcases h with h | h | h <;> simp [h]⟩
theorem ascL_mem {y : Int} : ∀ {l : List Int}, y ∈ ascL l ↔ y ∈ l
  | [] => Iff.rfl
  | x :: l => by
    show y ∈ insA x (ascL l) ↔ _
    rw [insA_mem, ascL_mem (l := l), List.mem_cons]
theorem next_mem {ks ps : List Int} {par : Option Nat} {x : Int} (h : x ∈ nextL ks ps par) : x ∈ leftL ks ps := ascL_mem.mp (List.mem_filter.mp h).1
theorem ext_ok {ks : List Int} {w : Nat} : ∀ i, i ≤ ks.length → ∀ p ∈ extL ks w i, p.length = i ∧ ∃ rest, ks.Perm (p ++ rest)
  | 0, _, p, hp => by
    rw [List.mem_singleton.mp hp]
    exact ⟨rfl, ks, List.Perm.refl _⟩
  | i + 1, hi, p, hp => by
    obtain ⟨q, hq, hx⟩ := List.mem_flatMap.mp hp
    obtain ⟨x, hx2, rfl⟩ := List.mem_map.mp hx
    obtain ⟨h1, rest, h2⟩ := ext_ok i (by omega) q hq
    have hm : x ∈ rest := (left_perm h2).mem_iff.mp (next_mem hx2)
    refine ⟨by rw [List.length_append, h1]; rfl, rest.erase x, h2.trans ?_⟩
    rw [List.append_assoc]
    exact List.Perm.append_left q (List.perm_cons_erase hm)
theorem flat_congr {α β : Type} {f g : α → List β} : ∀ l : List α, (∀ a ∈ l, f a = g a) → l.flatMap f = l.flatMap g
  | [], _ => rfl
  | a :: l, h => by
    rw [List.flatMap_cons, List.flatMap_cons, h a List.mem_cons_self, flat_congr l fun b hb => h b (List.mem_cons_of_mem _ hb)]
/-- going deep at once -/
def dfsL (w : Nat) : Nat → List Int → List Int → List (List Int)
  | 0, p, _ => [p]
  | m + 1, p, l => ((ascL l).filter (okNext p (parO w p.length))).flatMap fun x => dfsL w m (p ++ [x]) (l.erase x)
theorem flat_one {α : Type} : ∀ l : List α, (l.flatMap fun p => [p]) = l
  | [] => rfl
  | a :: l => by rw [List.flatMap_cons, flat_one l]; rfl
theorem bfs_dfs {ks : List Int} {w : Nat} : ∀ (m i : Nat), i + m = ks.length → allH ks w = (extL ks w i).flatMap fun p => dfsL w m p (leftL ks p)
  | 0, i, h => by
    have e : i = ks.length := by omega
    subst e
    exact (flat_one _).symm
  | m + 1, i, h => by
    rw [bfs_dfs m (i + 1) (by omega)]
    show ((extL ks w i).flatMap fun p => (nextL ks p (parO w i)).map fun x => p ++ [x]).flatMap _ = _
    rw [List.flatMap_assoc]
    refine flat_congr _ fun p hp => ?_
    rw [List.flatMap_map]
    have hpl := (ext_ok i (by omega) p hp).1
    show _ = ((ascL (leftL ks p)).filter (okNext p (parO w p.length))).flatMap _
    rw [hpl]
    refine flat_congr _ fun x _ => ?_
    rw [left_snoc]
def heapB (w : Nat) (r : List Int) : Bool := (List.range r.length).all fun c => decide (c = 0) || decide (r.getD ((c - 1) / w) 0 ≤ r.getD c 0)
theorem heapB_iff {w : Nat} {r : List Int} : heapB w r = true ↔ ∀ c, 1 ≤ c → c < r.length → r.getD ((c - 1) / w) 0 ≤ r.getD c 0 := by
  unfold heapB
  rw [List.all_eq_true]
  refine ⟨fun h c h1 h2 => ?_, fun h c hc => ?_⟩
  · have := h c (List.mem_range.mpr h2)
    rw [Bool.or_eq_true, decide_eq_true_eq, decide_eq_true_eq] at this
    rcases this with e | e
    · omega
    · exact e
  · rw [Bool.or_eq_true, decide_eq_true_eq, decide_eq_true_eq]
    by_cases e : c = 0
    · exact .inl e
    · exact .inr (h c (by omega) (List.mem_range.mp hc))
theorem getD_left {a b : List Int} {c : Nat} (h : c < a.length) : (a ++ b).getD c 0 = a.getD c 0 := by
  rw [List.getD_eq_getElem?_getD, List.getD_eq_getElem?_getD, List.getElem?_append_left h]
theorem getD_mid {a b : List Int} {x : Int} : (a ++ x :: b).getD a.length 0 = x := by
  rw [List.getD_eq_getElem?_getD, List.getElem?_append_right (Nat.le_refl _), Nat.sub_self]
  rfl
theorem ok_iff {w : Nat} {p : List Int} {x : Int} : okNext p (parO w p.length) x = true ↔ (1 ≤ p.length → p.getD ((p.length - 1) / w) 0 ≤ x) := by
  unfold parO okNext
  by_cases h : p.length = 0
  · rw [if_pos h]
    exact ⟨fun _ z => by omega, fun _ => rfl⟩
  · rw [if_neg h]
    show decide _ = true ↔ _
    rw [decide_eq_true_eq]
    exact ⟨fun a _ => a, fun a => a (by omega)⟩
theorem par_in {w c : Nat} (h : 1 ≤ c) : (c - 1) / w < c := Nat.lt_of_le_of_lt (Nat.div_le_self _ _) (by omega)
theorem heap_snoc {w : Nat} {p : List Int} {x : Int} (h : heapB w p = true) (o : okNext p (parO w p.length) x = true) : heapB w (p ++ [x]) = true := by
  rw [heapB_iff] at h ⊢
  rw [ok_iff] at o
  intro c h1 h2
  rw [List.length_append, List.length_singleton] at h2
  have hp := par_in (w := w) h1
  by_cases e : c = p.length
  · subst e
    rw [getD_left hp, getD_mid]
    exact o h1
  · rw [getD_left (by omega), getD_left (by omega)]
    exact h c h1 (by omega)
theorem heap_not {w : Nat} {p s : List Int} {x : Int} (o : ¬ okNext p (parO w p.length) x = true) : heapB w (p ++ x :: s) = false := by
  cases hb : heapB w (p ++ x :: s) with
  | false => rfl
  | true =>
    refine absurd (ok_iff.mpr fun h1 => ?_) o
    have := heapB_iff.mp hb p.length h1 (by rw [List.length_append, List.length_cons]; omega)
    rw [getD_left (par_in h1), getD_mid] at this
    exact this
theorem flat_filter {α β : Type} (b : α → Bool) (f : α → List β) : ∀ l : List α, (l.filter b).flatMap f = l.flatMap fun x => if b x = true then f x else []
  | [] => rfl
  | a :: l => by
    by_cases h : b a = true
    · rw [List.filter_cons_of_pos h, List.flatMap_cons, List.flatMap_cons, if_pos h, flat_filter b f l]
    · rw [List.filter_cons_of_neg h, List.flatMap_cons, if_neg h, flat_filter b f l]
      rfl
theorem dfs_perms {w : Nat} : ∀ (m : Nat) (p l : List Int), heapB w p = true → (((permsL m l).map fun s => p ++ s).filter (heapB w)) = dfsL w m p l
  | 0, p, l, h => by
    show ([p ++ []] : List (List Int)).filter (heapB w) = [p]
    rw [List.append_nil, List.filter_cons_of_pos h]
    rfl
  | m + 1, p, l, h => by
    unfold permsL dfsL
    rw [flat_filter, List.map_flatMap, List.filter_flatMap]
    refine flat_congr _ fun x _ => ?_
    rw [List.map_map]
    by_cases o : okNext p (parO w p.length) x = true
    · rw [if_pos o, ← dfs_perms m (p ++ [x]) (l.erase x) (heap_snoc h o)]
      refine congrArg (List.filter (heapB w)) (List.map_congr_left fun s _ => ?_)
      show p ++ (x :: s) = (p ++ [x]) ++ s
      rw [List.append_assoc]
      rfl
    · rw [if_neg o, List.filter_eq_nil_iff]
      intro r hr
      obtain ⟨s, _, rfl⟩ := List.mem_map.mp hr
      rw [show ((fun s => p ++ s) ∘ fun s => x :: s) s = p ++ x :: s from rfl, heap_not o]
      exact Bool.false_ne_true
/-- extending keys by keys gives the heaps among all orders, in their order -/
theorem allH_perms (ks : List Int) (w : Nat) : allH ks w = (permsL ks.length ks).filter (heapB w) := by
  rw [bfs_dfs ks.length 0 (Nat.zero_add _)]
  show ([[]] : List (List Int)).flatMap _ = _
  rw [List.flatMap_cons, List.flatMap_nil, List.append_nil, ← dfs_perms ks.length [] (leftL ks []) rfl]
  refine congrArg (List.filter (heapB w)) ?_
  show (permsL ks.length ks).map (fun s => [] ++ s) = _
  simp
def keyAt (ks : List Int) (p : Nat) : Int := ks.getD p 0
def leastC (ks : List Int) (l : List Nat) : Nat := l.getD (PySem.argBest (fun i j => decide (keyAt ks (l.getD i 0) < keyAt ks (l.getD j 0))) (l.length - 1)) 0
/-- the first place at which there is a brother with a less key -/
def badL (n w : Nat) (ks : List Int) (l : List Nat) : Option Nat := l.find? fun q => !(leastC ks (kidL n w ((q - 1) / w)) == q)
def upF : Nat → Nat → Nat → List Nat
  | 0, _, p => [p]
  | k + 1, w, p => if p = 0 then [0] else p :: upF k w ((p - 1) / w)
def upL (w p : Nat) : List Nat := upF 13 w p
def wayL (w p : Nat) : List Nat := (upL w p).reverse
def belL (w n place : Nat) : List Nat := (wayL w (n - 1)).drop (wayL w place).length
def endOf (p : Nat) (l : List Nat) : Nat := l.getLastD p
theorem mem_kid {n w p c : Nat} : c ∈ kidL n w p ↔ 1 ≤ c ∧ c < n ∧ (c - 1) / w = p := by
  unfold kidL
  rw [List.mem_map]
  constructor
  · rintro ⟨k, hk, rfl⟩
    obtain ⟨h1, h2⟩ := List.mem_filter.mp hk
    have h1 := List.mem_range.mp h1
    have h2 := of_decide_eq_true h2
    exact ⟨by omega, by omega, by rw [Nat.add_sub_cancel]; exact h2⟩
  · rintro ⟨h1, h2, h3⟩
    refine ⟨c - 1, List.mem_filter.mpr ⟨List.mem_range.mpr (by omega), decide_eq_true h3⟩, by omega⟩
theorem up_eq : ∀ w, w < 5 → ∀ p, p < 13 → 1 ≤ w → upL w p = if p = 0 then [0] else p :: upL w ((p - 1) / w) := by decide +kernel
theorem way_rec (w p : Nat) (hw : 1 ≤ w ∧ w ≤ 4) (hp : p ≤ 12) (h0 : 0 < p) : wayL w p = wayL w ((p - 1) / w) ++ [p] := by
  unfold wayL
  have e := up_eq w (by omega) p (by omega) hw.1
  rw [if_neg (by omega)] at e
  rw [e, List.reverse_cons]
theorem way_zero : ∀ w, w < 5 → 1 ≤ w → wayL w 0 = [0] := by decide +kernel
theorem end_cons (p b : Nat) (l : List Nat) : endOf p (b :: l) = endOf b l := by
  unfold endOf
  cases l with
  | nil => rfl
  | cons c l => simp [List.getLastD]
theorem down_snoc {n w : Nat} : ∀ (l : List Nat) (p b : Nat), Down n w p l → b ∈ kidL n w (endOf p l) → Down n w p (l ++ [b])
  | [], p, b, _, hb => ⟨hb, trivial⟩
  | c :: l, p, b, ⟨h1, h2⟩, hb => ⟨h1, down_snoc l c b h2 (by rw [end_cons] at hb; exact hb)⟩
theorem end_snoc (l : List Nat) (p b : Nat) : endOf p (l ++ [b]) = b := by
  unfold endOf
  rw [List.getLastD_eq_getLast?, List.getLast?_append]
  rfl
theorem of_sub {n w : Nat} (hw : 1 ≤ w ∧ w ≤ 4) (hn : n ≤ 12) : ∀ (k s p : Nat), s ≤ k → s < n → p ∈ wayL w s → ∃ l, Down n w p l ∧ endOf p l = s
  | 0, s, p, hk, hs, hm => by
    obtain rfl : s = 0 := by omega
    rw [way_zero w (by omega) hw.1] at hm
    rw [List.mem_singleton.mp hm]
    exact ⟨[], trivial, rfl⟩
  | k + 1, s, p, hk, hs, hm => by
    by_cases h0 : s = 0
    · subst h0
      rw [way_zero w (by omega) hw.1] at hm
      rw [List.mem_singleton.mp hm]
      exact ⟨[], trivial, rfl⟩
    · rw [way_rec w s hw (by omega) (by omega)] at hm
      have hlt : (s - 1) / w ≤ s - 1 := Nat.div_le_self _ _
      rcases List.mem_append.mp hm with hm | hm
      · obtain ⟨l, h1, h2⟩ := of_sub hw hn k ((s - 1) / w) p (by omega) (by omega) hm
        exact ⟨l ++ [s], down_snoc l p s h1 (by rw [h2]; exact mem_kid.mpr ⟨by omega, hs, rfl⟩), end_snoc l p s⟩
      · rw [List.mem_singleton.mp hm]
        exact ⟨[], trivial, rfl⟩
theorem kid_in {n w i j : Nat} (hw : 1 ≤ w) (h : j ∈ kidL n w i) : i < j ∧ j < n := by
  unfold kidL at h
  obtain ⟨k, hk, rfl⟩ := List.mem_map.mp h
  obtain ⟨h1, h2⟩ := List.mem_filter.mp hk
  have h1 := List.mem_range.mp h1
  have h2 := of_decide_eq_true h2
  have : k / w ≤ k := Nat.div_le_self _ _
  omega
theorem way_down {n w : Nat} (hw : 1 ≤ w ∧ w ≤ 4) (hn : n ≤ 12) : ∀ (l : List Nat) (p : Nat), p < n → Down n w p l → wayL w (endOf p l) = wayL w p ++ l
  | [], p, _, _ => (List.append_nil _).symm
  | b :: l, p, hp, ⟨hb, hd⟩ => by
    obtain ⟨b1, b2⟩ := kid_in hw.1 hb
    rw [end_cons, way_down hw hn l b b2 hd, way_rec w b hw (by omega) (by omega), (mem_kid.mp hb).2.2, List.append_assoc]
    rfl
theorem way_leA : ∀ w, w < 5 → ∀ i, i < 13 → 1 ≤ w → ∀ q ∈ wayL w i, q ≤ i := by decide +kernel
theorem bel_ok {w n place : Nat} (hw : 1 ≤ w ∧ w ≤ 4) (hn : n ≤ 12) (h1 : 1 ≤ n) (h : place ∈ wayL w (n - 1)) : place < n ∧ Down n w place (belL w n place) ∧ endOf place (belL w n place) = n - 1 ∧ wayL w (n - 1) = wayL w place ++ belL w n place := by
  have hp := way_leA w (by omega) (n - 1) (by omega) hw.1 place h
  obtain ⟨l, hd, he⟩ := of_sub hw hn (n - 1) (n - 1) place (Nat.le_refl _) (by omega) h
  have hw2 := way_down hw hn l place (by omega) hd
  rw [he] at hw2
  have e : belL w n place = l := by
    unfold belL
    rw [hw2, List.drop_left]
  rw [e]
  exact ⟨by omega, hd, he, hw2⟩
def swp (ks : List Int) (a b : Nat) : List Int := (ks.set a (keyAt ks b)).set b (keyAt ks a)
def dnS : List Int → Nat → List Nat → List Int
  | ks, _, [] => ks
  | ks, p, b :: l => dnS (swp ks p b) b l
theorem down_lt {n w : Nat} (hw : 1 ≤ w) : ∀ (l : List Nat) (p : Nat), p < n → Down n w p l → (∀ q ∈ l, p < q ∧ q < n) ∧ p ≤ endOf p l ∧ endOf p l < n
  | [], p, hp, _ => ⟨fun q hq => (nomatch hq), Nat.le_refl _, hp⟩
  | b :: l, p, hp, ⟨hb, hd⟩ => by
    obtain ⟨b1, b2⟩ := kid_in hw hb
    obtain ⟨h1, h2, h3⟩ := down_lt hw l b b2 hd
    refine ⟨fun q hq => ?_, by rw [end_cons]; omega, by rw [end_cons]; exact h3⟩
    rcases List.mem_cons.mp hq with rfl | hq
    · exact ⟨b1, b2⟩
    · have := h1 q hq
      exact ⟨by omega, this.2⟩
theorem keyAt_set {ks : List Int} {a p : Nat} {v : Int} (ha : a < ks.length) : keyAt (ks.set a v) p = if p = a then v else keyAt ks p := by
  unfold keyAt
  rw [List.getD_eq_getElem?_getD, List.getD_eq_getElem?_getD, List.getElem?_set]
  by_cases h : a = p
  · rw [if_pos h, if_pos (by omega), if_pos h.symm]
    rfl
  · rw [if_neg h, if_neg (fun z => h z.symm)]
theorem keyAt_swp {ks : List Int} {a b p : Nat} (ha : a < ks.length) (hb : b < ks.length) : keyAt (swp ks a b) p = if p = b then keyAt ks a else if p = a then keyAt ks b else keyAt ks p := by
  unfold swp
  rw [keyAt_set (by rw [List.length_set]; exact hb), keyAt_set ha]
theorem swp_len (ks : List Int) (a b : Nat) : (swp ks a b).length = ks.length := by unfold swp; rw [List.length_set, List.length_set]
/-- the place of a way behind a place of it -/
def nxt : Nat → List Nat → Nat → Nat
  | p, [], _ => p
  | p, b :: l, q => if q = p then b else nxt b l q
theorem down_get {n w : Nat} (hw : 1 ≤ w) : ∀ (l : List Nat) (p : Nat), p < n → Down n w p l → ∀ j (h : j < l.length), (l[j] - 1) / w = (p :: l).getD j 0 ∧ (p :: l).getD j 0 < n ∧ p < l[j] ∧ l[j] < n
  | [], _, _, _, j, h => absurd h (by simp)
  | b :: l, p, hp, ⟨hb, hd⟩, 0, h => by
    obtain ⟨b1, b2⟩ := kid_in hw hb
    exact ⟨(mem_kid.mp hb).2.2, hp, b1, b2⟩
  | b :: l, p, hp, ⟨hb, hd⟩, j + 1, h => by
    obtain ⟨b1, b2⟩ := kid_in hw hb
    have hj : j < l.length := by simpa using h
    obtain ⟨h1, h2, h3, h4⟩ := down_get hw l b b2 hd j hj
    exact ⟨h1, h2, Nat.lt_trans b1 h3, h4⟩
theorem nxt_get {n w : Nat} (hw : 1 ≤ w) : ∀ (l : List Nat) (p : Nat), p < n → Down n w p l → ∀ j (h : j < l.length), nxt p l ((p :: l).getD j 0) = l[j]
  | b :: l, p, hp, hd, 0, _ => by
    show (if p = p then b else _) = b
    rw [if_pos rfl]
  | b :: l, p, hp, ⟨hb, hd⟩, j + 1, h => by
    obtain ⟨b1, b2⟩ := kid_in hw hb
    have hj : j < l.length := by simpa using h
    have g := (down_get hw l b b2 hd j hj)
    have hne : (b :: l).getD j 0 ≠ p := by
      cases j with
      | zero => show b ≠ p; omega
      | succ i =>
        rw [List.getD_cons_succ, List.getD_eq_getElem?_getD, List.getElem?_eq_getElem (by omega)]
        have := (down_get hw l b b2 hd i (by omega)).2.2.1
        show l[i] ≠ p
        omega
    show (if (p :: b :: l).getD (j + 1) 0 = p then b else nxt b l ((p :: b :: l).getD (j + 1) 0)) = l[j]
    rw [List.getD_cons_succ, if_neg hne]
    exact nxt_get hw l b b2 hd j hj
theorem getD_last : ∀ (l : List Nat) (b : Nat), (b :: l).getD l.length 0 = endOf b l
  | [], b => rfl
  | c :: l, b => by
    rw [List.length_cons, List.getD_cons_succ, end_cons]
    exact getD_last l c
theorem dn_at {n w : Nat} (hw : 1 ≤ w) : ∀ (l : List Nat) (ks : List Int) (p : Nat), ks.length = n → p < n → Down n w p l → ∀ q,
    keyAt (dnS ks p l) q = if q = endOf p l then keyAt ks p else if q ∈ p :: l then keyAt ks (nxt p l q) else keyAt ks q
  | [], ks, p, hl, hp, _, q => by
    show keyAt ks q = if q = p then keyAt ks p else _
    by_cases h : q = p
    · rw [if_pos h, h]
    · rw [if_neg h, if_neg (by simp [h])]
  | b :: l, ks, p, hl, hp, ⟨hb, hd⟩, q => by
    obtain ⟨b1, b2⟩ := kid_in hw hb
    obtain ⟨h1, h2, h3⟩ := down_lt hw l b b2 hd
    have ih := dn_at hw l (swp ks p b) b (by rw [swp_len, hl]) b2 hd q
    show keyAt (dnS (swp ks p b) b l) q = _
    rw [ih, end_cons]
    have sw : ∀ c, keyAt (swp ks p b) c = if c = b then keyAt ks p else if c = p then keyAt ks b else keyAt ks c := fun c => keyAt_swp (by omega) (by omega)
    by_cases e1 : q = endOf b l
    · rw [if_pos e1, if_pos e1, sw, if_pos rfl]
    · rw [if_neg e1, if_neg e1]
      by_cases e2 : q ∈ b :: l
      · have hqp : q ≠ p := fun z => by
          rcases List.mem_cons.mp e2 with y | y
          · omega
          · have := h1 q y
            omega
        rw [if_pos e2, if_pos (List.mem_cons_of_mem _ e2)]
        show _ = keyAt ks (if q = p then b else nxt b l q)
        rw [if_neg hqp, sw]
        have hn : nxt b l q ∈ l := by
          have hi : ∃ j, j < l.length ∧ (b :: l).getD j 0 = q := by
            obtain ⟨j, hj, e⟩ := List.mem_iff_getElem.mp e2
            have ed : (b :: l).getD j 0 = q := by rw [List.getD_eq_getElem?_getD, List.getElem?_eq_getElem hj, ← e]; rfl
            refine ⟨j, Classical.byContradiction fun hge => e1 ?_, ed⟩
            have ej : j = l.length := by rw [List.length_cons] at hj; omega
            rw [← ed, ej]
            exact getD_last l b
          obtain ⟨j, hj, e⟩ := hi
          rw [← e, nxt_get hw l b b2 hd j hj]
          exact List.getElem_mem hj
        have := h1 _ hn
        rw [if_neg (by omega), if_neg (by omega)]
      · rw [if_neg e2, sw]
        have hqb : q ≠ b := fun z => e2 (z ▸ List.mem_cons_self)
        rw [if_neg hqb]
        by_cases e3 : q = p
        · rw [if_pos e3, e3, if_pos List.mem_cons_self]
          show _ = keyAt ks (if p = p then b else _)
          rw [if_pos rfl]
        · rw [if_neg e3, if_neg (fun z => (List.mem_cons.mp z).elim e3 e2)]
end
end Tw

set_option Elab.async false
set_option linter.all false
set_option maxRecDepth 100000
set_option maxHeartbeats 2000000
namespace Tw
open PySem PySem.Spec PyProof.Rows L2
section
variable {P : Program} {w : World} {K : PySem.W.Frag} {mg : Str → Option Value} {base : Heap} {A : Ad}
open LamX (ExtN Tabs TabS)
theorem swp_perm {ks : List Int} {a b : Nat} (ha : a < ks.length) (hb : b < ks.length) : (swp ks a b).Perm ks := by
  have e1 : keyAt ks a = ks[a] := by unfold keyAt; rw [List.getD_eq_getElem?_getD, List.getElem?_eq_getElem ha]; rfl
  have e2 : keyAt ks b = ks[b] := by unfold keyAt; rw [List.getD_eq_getElem?_getD, List.getElem?_eq_getElem hb]; rfl
  unfold swp
  rw [e1, e2]
  exact List.set_set_perm ha hb
theorem dn_perm {n w : Nat} (hw : 1 ≤ w) : ∀ (l : List Nat) (ks : List Int) (p : Nat), ks.length = n → p < n → Down n w p l → (dnS ks p l).Perm ks
  | [], _, _, _, _, _ => List.Perm.refl _
  | b :: l, ks, p, hl, hp, ⟨hb, hd⟩ => by
    obtain ⟨b1, b2⟩ := kid_in hw hb
    exact (dn_perm hw l (swp ks p b) b (by rw [swp_len, hl]) b2 hd).trans (swp_perm (by omega) (by omega))
/-- the faults of a row -/
def faultB (ns : List Int) (w p : Nat) : Bool := decide (0 < p) && decide (ns.getD p 0 < ns.getD ((p - 1) / w) 0)
def faultL (ns : List Int) (w : Nat) : List Nat := (List.range ns.length).filter (faultB ns w)
theorem no_fault {ns : List Int} {w : Nat} (hw : 1 ≤ w ∧ w ≤ 4) (hn : ns.length ≤ 12) (h : faultL ns w = []) : ∀ p, p < ns.length → ∀ q ∈ wayL w p, ns.getD q 0 ≤ ns.getD p 0 := by
  have h1 : ∀ p, p < ns.length → 0 < p → ns.getD ((p - 1) / w) 0 ≤ ns.getD p 0 := fun p hp h0 => by
    refine Int.not_lt.mp fun z => ?_
    have m : p ∈ faultL ns w := by
      unfold faultL
      refine List.mem_filter.mpr ⟨List.mem_range.mpr hp, ?_⟩
      unfold faultB
      rw [decide_eq_true h0, decide_eq_true z]
      rfl
    rw [h] at m
    cases m
  intro p
  induction p using Nat.strongRecOn with
  | _ p ih =>
    intro hp q hq
    by_cases h0 : 0 < p
    · have hlt : (p - 1) / w < p := Nat.lt_of_le_of_lt (Nat.div_le_self _ _) (by omega)
      rw [way_rec w p hw (by omega) h0] at hq
      rcases List.mem_append.mp hq with hq | hq
      · exact Int.le_trans (ih _ hlt (by omega) q hq) (h1 p hp h0)
      · rw [List.mem_singleton.mp hq]
        exact Int.le_refl _
    · obtain rfl : p = 0 := by omega
      rw [way_zero w (by omega) hw.1] at hq
      rw [List.mem_singleton.mp hq]
      exact Int.le_refl _
theorem self_sub : ∀ w, w < 5 → ∀ i, i < 13 → 1 ≤ w → i ∈ wayL w i := by decide +kernel
def HeapL (n w : Nat) (ks : List Int) : Prop := ∀ c, 1 ≤ c → c < n → keyAt ks ((c - 1) / w) ≤ keyAt ks c
theorem fault_heap {n w : Nat} {ks : List Int} (hw : 1 ≤ w ∧ w ≤ 4) (hn : n ≤ 12) (hl : ks.length = n) (h : faultL ks w = []) : HeapL n w ks := fun c h1 h2 => by
  refine no_fault hw (by omega) h c (by omega) _ ?_
  rw [way_rec w c hw (by omega) h1]
  exact List.mem_append_left _ (self_sub w (by omega) _ (by have := Nat.div_le_self (c - 1) w; omega) hw.1)
def goUp (w : Nat) : Nat → List Int → Nat → List Nat → Nat → List Int × List Nat × Nat
  | 0, ks, _, way, lk => (ks, way, lk)
  | f + 1, ks, p, way, lk => if p = 0 then (ks, way, lk) else
      if keyAt ks p < keyAt ks ((p - 1) / w) then goUp w f (swp ks p ((p - 1) / w)) ((p - 1) / w) (way ++ [(p - 1) / w]) (lk + 1) else (ks, way, lk + 1)
theorem heap_fault {n w : Nat} {ks : List Int} (hl : ks.length = n) (h : HeapL n w ks) : faultL ks w = [] := by
  refine List.eq_nil_iff_forall_not_mem.mpr fun p hp => ?_
  unfold faultL at hp
  obtain ⟨h1, h2⟩ := List.mem_filter.mp hp
  unfold faultB at h2
  obtain ⟨h3, h4⟩ := Bool.and_eq_true_iff.mp h2
  have h1 := List.mem_range.mp h1
  have h3 := of_decide_eq_true h3
  have h4 := of_decide_eq_true h4
  have := h p (by omega) (by omega)
  unfold keyAt at this
  omega
theorem in_bel {w n place one : Nat} (hw : 1 ≤ w ∧ w ≤ 4) (hn : n ≤ 12) (h1 : 1 ≤ n) (h : place ∈ wayL w (n - 1)) : one ∈ belL w n place ↔ one ∈ wayL w (n - 1) ∧ place < one := by
  obtain ⟨b1, b2, b3, b4⟩ := bel_ok hw hn h1 h
  refine ⟨fun z => ⟨by rw [b4]; exact List.mem_append_right _ z, ((down_lt hw.1 _ _ b1 b2).1 one z).1⟩, fun ⟨z, y⟩ => ?_⟩
  rw [b4] at z
  rcases List.mem_append.mp z with x | x
  · have := way_leA w (by omega) place (by omega) hw.1 one x
    omega
  · exact x
theorem m1 : ¬ (("row" : Str) = "way") := by decide +kernel
theorem m2 : ¬ (("row" : Str) = "looks") := by decide +kernel
theorem m3 : ¬ (("way" : Str) = "looks") := by decide +kernel
theorem perm_mem : ∀ (r l : List Int), r.Perm l → r ∈ permsL r.length l
  | [], _, _ => List.mem_singleton.mpr rfl
  | x :: t, l, h => by
    have hm : x ∈ l := h.mem_iff.mp List.mem_cons_self
    refine List.mem_flatMap.mpr ⟨x, ascL_mem.mpr hm, List.mem_map.mpr ⟨t, perm_mem t _ ?_, rfl⟩⟩
    exact (List.perm_cons x).mp (h.trans (List.perm_cons_erase hm))
theorem insA_asc {x : Int} : ∀ {l : List Int}, l.Pairwise (· < ·) → (insA x l).Pairwise (· < ·)
  | [], _ => List.pairwise_singleton _ _
  | z :: l, h => by
    obtain ⟨h1, h2⟩ := List.pairwise_cons.mp h
    unfold insA
    by_cases a : x < z
    · rw [if_pos a]
      refine List.pairwise_cons.mpr ⟨fun y hy => ?_, h⟩
      rcases List.mem_cons.mp hy with e | e
      · rw [e]; exact a
      · exact Int.lt_trans a (h1 y e)
    · rw [if_neg a]
      by_cases b : x = z
      · rw [if_pos b]
        exact h
      · rw [if_neg b]
        refine List.pairwise_cons.mpr ⟨fun y hy => ?_, insA_asc h2⟩
        rcases insA_mem.mp hy with e | e
        · rw [e]; omega
        · exact h1 y e
theorem ascL_asc : ∀ l : List Int, (ascL l).Pairwise (· < ·)
  | [] => List.Pairwise.nil
  | x :: l => insA_asc (ascL_asc l)
theorem perms_asc : ∀ (n : Nat) (l : List Int), (permsL n l).Pairwise (· < ·)
  | 0, _ => List.pairwise_singleton _ _
  | n + 1, l => by
    unfold permsL
    rw [List.pairwise_flatMap]
    refine ⟨fun x _ => ?_, ?_⟩
    · rw [List.pairwise_map]
      exact (perms_asc n _).imp fun h => List.cons_lt_cons_iff.mpr (.inr ⟨rfl, h⟩)
    · refine (ascL_asc l).imp fun {x y} h a ha b hb => ?_
      obtain ⟨s, _, rfl⟩ := List.mem_map.mp ha
      obtain ⟨t, _, rfl⟩ := List.mem_map.mp hb
      exact List.cons_lt_cons_iff.mpr (.inl h)
theorem perms_perm : ∀ (n : Nat) (l r : List Int), l.length = n → r ∈ permsL n l → r.Perm l
  | 0, l, r, h, hr => by
    rw [List.mem_singleton.mp hr, List.length_eq_zero_iff.mp h]
  | n + 1, l, r, h, hr => by
    obtain ⟨x, hx, h2⟩ := List.mem_flatMap.mp hr
    obtain ⟨t, h3, rfl⟩ := List.mem_map.mp h2
    have hm := ascL_mem.mp hx
    have := perms_perm n (l.erase x) t (by rw [List.length_erase_of_mem hm]; omega) h3
    exact (this.cons x).trans (List.perm_cons_erase hm).symm
def stkP (w : Nat) (ks : List Int) (place one other : Nat) : Prop := (one ∈ wayL w (ks.length - 1) ∧ place < one) ∧ other ∈ kidL ks.length w ((one - 1) / w) ∧ keyAt ks other < keyAt ks one
theorem el_key {l : List Int} {i : Nat} (h : i < l.length) : l[i] = keyAt l i := by
  unfold keyAt
  rw [List.getD_eq_getElem?_getD, List.getElem?_eq_getElem h]
  rfl
theorem ext_key {a b : List Int} (hl : a.length = b.length) (h : ∀ q, q < a.length → keyAt a q = keyAt b q) : a = b :=
  List.ext_getElem hl fun q h1 h2 => by rw [el_key h1, el_key h2, h q h1]
theorem dn_len : ∀ (l : List Nat) (ks : List Int) (p : Nat), (dnS ks p l).length = ks.length
  | [], _, _ => rfl
  | b :: l, ks, p => by
    show (dnS (swp ks p b) b l).length = _
    rw [dn_len l, swp_len]
theorem goUp_go {w f : Nat} {ks : List Int} {p : Nat} {way : List Nat} {lk : Nat} (h0 : p ≠ 0) (h : keyAt ks p < keyAt ks ((p - 1) / w)) : goUp w (f + 1) ks p way lk = goUp w f (swp ks p ((p - 1) / w)) ((p - 1) / w) (way ++ [(p - 1) / w]) (lk + 1) := by
  rw [goUp, if_neg h0, if_pos h]
theorem swp_swp {ks : List Int} {p b : Nat} (hp : p < ks.length) (hb : b < ks.length) (h : p ≠ b) : swp (swp ks p b) b p = ks := by
  refine ext_key (by rw [swp_len, swp_len]) fun q _ => ?_
  rw [keyAt_swp (by rw [swp_len]; exact hb) (by rw [swp_len]; exact hp), keyAt_swp hp hb, keyAt_swp hp hb, keyAt_swp hp hb, if_pos rfl, if_neg h, if_pos rfl]
  by_cases e1 : q = p
  · rw [if_pos e1, e1]
  · rw [if_neg e1, if_neg e1]
    by_cases e2 : q = b
    · rw [if_pos e2, e2]
    · rw [if_neg e2, if_neg e2]
/-- a push undoes it -/
theorem up_dn {n w : Nat} (hw : 1 ≤ w) : ∀ (l : List Nat) (ks : List Int) (p f : Nat) (way : List Nat) (lk : Nat), ks.length = n → p < n → Down n w p l → (∀ q ∈ l, keyAt ks p < keyAt ks q) → way.getLastD 0 = endOf p l →
    ∃ way' lk', goUp w (f + l.length) (dnS ks p l) (endOf p l) way lk = goUp w f ks p way' lk' ∧ way'.getLastD 0 = p
  | [], ks, p, f, way, lk, _, _, _, _, hl => ⟨way, lk, rfl, hl⟩
  | b :: l, ks, p, f, way, lk, hlen, hp, ⟨hb, hd⟩, hlt, hl => by
    obtain ⟨b1, b2⟩ := kid_in hw hb
    obtain ⟨m1, m2, m3⟩ := mem_kid.mp hb
    obtain ⟨h1, _, _⟩ := down_lt hw l b b2 hd
    have sw : ∀ c, keyAt (swp ks p b) c = if c = b then keyAt ks p else if c = p then keyAt ks b else keyAt ks c := fun c => keyAt_swp (by omega) (by omega)
    obtain ⟨way', lk', e, hw'⟩ := up_dn hw l (swp ks p b) b (f + 1) way lk (by rw [swp_len, hlen]) b2 hd (fun q hq => by
      have := h1 q hq
      rw [sw, sw, if_pos rfl, if_neg (by omega), if_neg (by omega)]
      exact hlt q (List.mem_cons_of_mem _ hq)) (by rw [hl, end_cons])
    refine ⟨way' ++ [p], lk' + 1, ?_, by simp⟩
    rw [end_cons]
    show goUp w (f + (l.length + 1)) (dnS (swp ks p b) b l) (endOf b l) way lk = _
    rw [show f + (l.length + 1) = f + 1 + l.length by omega, e]
    have hlt2 : keyAt (swp ks p b) b < keyAt (swp ks p b) ((b - 1) / w) := by
      rw [m3, sw, sw, if_pos rfl, if_neg (by omega), if_pos rfl]
      exact hlt b List.mem_cons_self
    rw [goUp_go (by omega) hlt2, m3, swp_swp (by omega) (by omega) (by omega)]
theorem q1 : ¬ (("row" : Str) = "stops") := by decide +kernel
theorem q2 : ¬ (("row" : Str) = "changes") := by decide +kernel
/-- but for a place -/
def HeapBut (n w : Nat) (ks : List Int) (p : Nat) : Prop := (∀ c, 1 ≤ c → c < n → c ≠ p → keyAt ks ((c - 1) / w) ≤ keyAt ks c) ∧ (p ≠ 0 → ∀ c ∈ kidL n w p, keyAt ks ((p - 1) / w) ≤ keyAt ks c)
theorem dn_heap {n w : Nat} (hw : 1 ≤ w) : ∀ (l : List Nat) (ks : List Int) (p : Nat), ks.length = n → p < n → Down n w p l → HeapBut n w ks p →
    (∀ q ∈ l, ∀ c ∈ kidL n w ((q - 1) / w), keyAt ks q ≤ keyAt ks c) → HeapBut n w (dnS ks p l) (endOf p l)
  | [], ks, p, _, _, _, h, _ => h
  | b :: l, ks, p, hl, hp, ⟨hb, hd⟩, h, hm => by
    obtain ⟨b1, b2⟩ := kid_in hw hb
    obtain ⟨m1, m2, m3⟩ := mem_kid.mp hb
    obtain ⟨h1, _, _⟩ := down_lt hw l b b2 hd
    have sw : ∀ c, keyAt (swp ks p b) c = if c = b then keyAt ks p else if c = p then keyAt ks b else keyAt ks c := fun c => keyAt_swp (by omega) (by omega)
    rw [end_cons]
    have hpb : keyAt ks p ≤ keyAt ks b := by have := h.1 b m1 m2 (by omega); rw [m3] at this; exact this
    refine dn_heap hw l (swp ks p b) b (by rw [swp_len, hl]) b2 hd ⟨fun c c1 c2 hc => ?_, fun _ c hc => ?_⟩ (fun q hq c hc => ?_)
    · rw [sw c, if_neg hc, sw]
      have hcp : (c - 1) / w ≤ c - 1 := Nat.div_le_self _ _
      by_cases e1 : c = p
      · subst e1
        rw [if_pos rfl, if_neg (by omega), if_neg (by omega)]
        exact h.2 (by omega) b hb
      · rw [if_neg e1]
        by_cases e2 : (c - 1) / w = b
        · rw [if_pos e2]
          have := h.1 c c1 c2 e1
          rw [e2] at this
          omega
        · rw [if_neg e2]
          by_cases e3 : (c - 1) / w = p
          · rw [if_pos e3]
            exact hm b List.mem_cons_self c (by rw [m3]; exact mem_kid.mpr ⟨c1, c2, e3⟩)
          · rw [if_neg e3]
            exact h.1 c c1 c2 e1
    · obtain ⟨c1, c2, c3⟩ := mem_kid.mp hc
      obtain ⟨d1, d2⟩ := kid_in hw hc
      rw [m3, sw, sw, if_neg (by omega), if_pos rfl, if_neg (by omega), if_neg (by omega)]
      have := h.1 c c1 c2 (by omega)
      rw [c3] at this
      exact this
    · obtain ⟨q1, q2⟩ := h1 q hq
      obtain ⟨c1, c2, c3⟩ := mem_kid.mp hc
      have hqb : b ≤ (q - 1) / w := by
        obtain ⟨j, hj, e⟩ := List.mem_iff_getElem.mp hq
        have g := down_get hw l b b2 hd j hj
        rw [e] at g
        rw [g.1]
        cases j with
        | zero => exact Nat.le_refl _
        | succ i =>
          rw [List.getD_cons_succ, List.getD_eq_getElem?_getD, List.getElem?_eq_getElem (by omega)]
          have := (down_get hw l b b2 hd i (by omega)).2.2.1
          show b ≤ l[i]
          omega
      have hcp : (c - 1) / w ≤ c - 1 := Nat.div_le_self _ _
      rw [sw, sw, if_neg (by omega), if_neg (by omega), if_neg (by omega), if_neg (by omega)]
      exact hm q (List.mem_cons_of_mem _ hq) c hc
theorem way_idx1 : ∀ w, w < 5 → ∀ i, i < 13 → 1 ≤ w → ∀ q ∈ wayL w i, (wayL w i)[(wayL w q).length - 1]? = some q ∧ 1 ≤ (wayL w q).length ∧ ((wayL w i).take ((wayL w q).length - 1)).all (fun x => !(x == q)) = true := by decide +kernel
theorem way_idx {w i q : Nat} (hw : 1 ≤ w ∧ w ≤ 4) (hi : i ≤ 12) (h : q ∈ wayL w i) : (wayL w i)[(wayL w q).length - 1]? = some q ∧ 1 ≤ (wayL w q).length ∧ ∀ j, j < (wayL w q).length - 1 → (wayL w i)[j]? ≠ some q := by
  obtain ⟨a, b, c⟩ := way_idx1 w (by omega) i (by omega) hw.1 q h
  refine ⟨a, b, fun j hj z => ?_⟩
  have hm : q ∈ (wayL w i).take ((wayL w q).length - 1) := List.mem_iff_getElem?.mpr ⟨j, by rw [List.getElem?_take, if_pos hj]; exact z⟩
  have := List.all_eq_true.mp c q hm
  simp at this
theorem way_len : ∀ w, w < 5 → ∀ p, p < 13 → 1 ≤ w → (wayL w p).length ≤ 13 := by decide +kernel
def undR (w : Nat) (ks : List Int) (place : Nat) : List Int := (dnS ks place (belL w ks.length place)).take (ks.length - 1)
theorem goUp_stay {w f : Nat} {ks : List Int} {p : Nat} {way : List Nat} {lk : Nat} (h0 : p ≠ 0) (h : ¬ keyAt ks p < keyAt ks ((p - 1) / w)) : goUp w (f + 1) ks p way lk = (ks, way, lk + 1) := by
  rw [goUp, if_neg h0, if_neg h]
def pushR (bs : List Int) (w : Nat) (key : Int) : List Int × List Nat × Nat := goUp w 20 (bs ++ [key]) bs.length [bs.length] 0
def lastW (l : List Nat) : Nat := l.getLastD 0
def undP (w : Nat) (ks bs : List Int) (key : Int) (place : Nat) : Prop := bs.length + 1 = ks.length ∧ faultL bs w = [] ∧ (pushR bs w key).1 = ks ∧ lastW (pushR bs w key).2.1 = place
theorem key_ne {R : List Int} (hd : R.Nodup) {a b : Nat} (ha : a < R.length) (hb : b < R.length) (h : a ≠ b) : keyAt R a ≠ keyAt R b := fun z => by
  unfold keyAt at z
  rw [List.getD_eq_getElem?_getD, List.getD_eq_getElem?_getD, List.getElem?_eq_getElem ha, List.getElem?_eq_getElem hb] at z
  have z : R[a] = R[b] := z
  have hp := List.pairwise_iff_getElem.mp (List.nodup_iff_pairwise_ne.mp hd)
  rcases Nat.lt_or_gt_of_ne h with q | q
  · exact hp a b ha hb q z
  · exact hp b a hb ha q z.symm
theorem least_of {ks : List Int} {l : List Nat} {j : Nat} (h : Cl.FirstLeast (fun i => keyAt ks (l.getD i 0)) l.length j) : l.getD j 0 = leastC ks l := by
  have h0 := h.1
  obtain ⟨n, en⟩ : ∃ n, l.length = n + 1 := ⟨l.length - 1, by omega⟩
  have b := Cl.best_is (fun i => keyAt ks (l.getD i 0)) n
  rw [← en] at b
  unfold leastC
  rw [Cl.first_one h b, show l.length - 1 = n by omega]
theorem least_mem {ks : List Int} {l : List Nat} (h : l ≠ []) : leastC ks l ∈ l := by
  obtain ⟨n, en⟩ : ∃ n, l.length = n + 1 := ⟨l.length - 1, by have := List.length_pos_iff.mpr h; omega⟩
  have b := Cl.best_is (fun i => keyAt ks (l.getD i 0)) n
  rw [← en] at b
  rw [← least_of b, List.getD_eq_getElem?_getD, List.getElem?_eq_getElem b.1]
  exact List.getElem_mem b.1
theorem least_le {ks : List Int} {l : List Nat} {c : Nat} (h : c ∈ l) : keyAt ks (leastC ks l) ≤ keyAt ks c := by
  obtain ⟨n, en⟩ : ∃ n, l.length = n + 1 := ⟨l.length - 1, by have := List.length_pos_iff.mpr (List.ne_nil_of_mem h); omega⟩
  have b := Cl.best_is (fun i => keyAt ks (l.getD i 0)) n
  rw [← en] at b
  rw [← least_of b]
  obtain ⟨j, hj, e⟩ := List.mem_iff_getElem.mp h
  have := b.2.1 j hj
  simp only at this
  rw [show l.getD j 0 = c by rw [List.getD_eq_getElem?_getD, List.getElem?_eq_getElem hj, ← e]; rfl] at this
  exact this
theorem down_le {n w : Nat} (hw : 1 ≤ w) {ks : List Int} (hh : HeapL n w ks) : ∀ (l : List Nat) (p : Nat), Down n w p l → ∀ q ∈ l, keyAt ks p ≤ keyAt ks q
  | [], _, _, q, hq => nomatch hq
  | b :: l, p, ⟨hb, hd⟩, q, hq => by
    obtain ⟨m1, m2, m3⟩ := mem_kid.mp hb
    have h1 := hh b m1 m2
    rw [m3] at h1
    rcases List.mem_cons.mp hq with rfl | hq
    · exact h1
    · have := down_le hw hh l b hd q hq
      omega
theorem keyAt_take {ks : List Int} {m c : Nat} (h : c < m) : keyAt (ks.take m) c = keyAt ks c := by
  unfold keyAt
  rw [List.getD_eq_getElem?_getD, List.getElem?_take, if_pos h, List.getD_eq_getElem?_getD]
section
variable {w place : Nat} {ks : List Int}
theorem und_ok (hw : 1 ≤ w ∧ w ≤ 4) (h12 : ks.length ≤ 12) (h1 : 1 ≤ ks.length) (hf : faultL ks w = []) (hnd : ks.Nodup) (hpl : place ∈ wayL w (ks.length - 1)) (hb : badL ks.length w ks (belL w ks.length place) = none) :
    undP w ks (undR w ks place) (keyAt ks place) place ∧ ∀ z ∈ undR w ks place, z ∈ ks := by
  obtain ⟨b1, b2, b3, b4⟩ := bel_ok hw h12 h1 hpl
  obtain ⟨l, el⟩ : ∃ l, l = belL w ks.length place := ⟨_, rfl⟩
  unfold undR
  rw [← el] at b2 b3 b4 hb ⊢
  have hh := fault_heap hw h12 rfl hf
  have hall : ∀ c ∈ l, leastC ks (kidL ks.length w ((c - 1) / w)) = c := fun c hc => by
    have := List.find?_eq_none.mp hb c hc
    simpa using this
  have hle := down_le hw.1 hh l place b2
  have hin := (down_lt hw.1 l place b1 b2).1
  have hbut := dn_heap hw.1 l ks place rfl b1 b2 ⟨fun c c1 c2 _ => hh c c1 c2, fun h0 c hc => by
    obtain ⟨m1, m2, m3⟩ := mem_kid.mp hc
    have x := hh c m1 m2
    have y := hh place (by omega) b1
    rw [m3] at x
    omega⟩ (fun q hq c hc => by
    have := least_le (ks := ks) hc
    rw [hall q hq] at this
    exact this)
  rw [b3] at hbut
  have hlast : keyAt (dnS ks place l) (ks.length - 1) = keyAt ks place := by
    rw [dn_at hw.1 l ks place rfl b1 b2, if_pos b3.symm]
  have hdl := dn_len l ks place
  have hbl : ((dnS ks place l).take (ks.length - 1)).length = ks.length - 1 := by rw [List.length_take, hdl]; omega
  have happ : (dnS ks place l).take (ks.length - 1) ++ [keyAt ks place] = dnS ks place l := by
    refine ext_key (by rw [List.length_append, List.length_singleton, hbl, hdl]; omega) fun q hq => ?_
    rw [List.length_append, List.length_singleton, hbl] at hq
    by_cases e : q < ks.length - 1
    · have : keyAt ((dnS ks place l).take (ks.length - 1) ++ [keyAt ks place]) q = keyAt ((dnS ks place l).take (ks.length - 1)) q := by
        show List.getD _ q 0 = List.getD _ q 0
        rw [List.getD_eq_getElem?_getD, List.getElem?_append_left (by omega), List.getD_eq_getElem?_getD]
      rw [this, keyAt_take e]
    · have eq : q = ks.length - 1 := by omega
      rw [eq, hlast]
      show List.getD _ (ks.length - 1) 0 = _
      rw [List.getD_eq_getElem?_getD, List.getElem?_append_right (by omega), hbl, Nat.sub_self]
      rfl
  refine ⟨⟨by omega, heap_fault hbl fun c c1 c2 => ?_, ?_⟩, fun z hz => (dn_perm hw.1 l ks place rfl b1 b2).mem_iff.mp (List.mem_of_mem_take hz)⟩
  · have hcp : (c - 1) / w ≤ c - 1 := Nat.div_le_self _ _
    rw [keyAt_take (by omega), keyAt_take (by omega)]
    exact hbut.1 c c1 (by omega) (by omega)
  · have hll : l.length ≤ 12 := by
      have x := congrArg List.length b4
      have y := way_len w (by omega) (ks.length - 1) (by omega) hw.1
      have z := (way_idx hw (by omega) hpl).2.1
      rw [List.length_append] at x
      omega
    unfold pushR
    rw [happ, hbl]
    obtain ⟨way', lk', e, hw'⟩ := up_dn hw.1 l ks place (20 - l.length) [ks.length - 1] 0 rfl b1 b2 (fun q hq => by
      have x := hle q hq
      have y := key_ne hnd b1 (hin q hq).2 (by have := (hin q hq).1; omega)
      omega) (by rw [b3]; rfl)
    rw [show 20 - l.length + l.length = 20 by omega, b3] at e
    obtain ⟨f, hf2⟩ : ∃ f, 20 - l.length = f + 1 := ⟨20 - l.length - 1, by omega⟩
    rw [e, hf2]
    by_cases h0 : place = 0
    · rw [goUp, if_pos h0]
      exact ⟨rfl, hw'⟩
    · rw [goUp_stay h0 (by have := hh place (by omega) b1; omega)]
      exact ⟨rfl, hw'⟩
theorem stk_ok (hw : 1 ≤ w ∧ w ≤ 4) (h12 : ks.length ≤ 12) (h1 : 1 ≤ ks.length) (hnd : ks.Nodup) (hpl : place ∈ wayL w (ks.length - 1)) {c : Nat} (hb : badL ks.length w ks (belL w ks.length place) = some c) :
    stkP w ks place c (leastC ks (kidL ks.length w ((c - 1) / w))) := by
  obtain ⟨b1, b2, b3, b4⟩ := bel_ok hw h12 h1 hpl
  have hm := List.mem_of_find?_eq_some hb
  have hp := List.find?_some hb
  have hin := (down_lt hw.1 _ place b1 b2).1 c hm
  have hck : c ∈ kidL ks.length w ((c - 1) / w) := mem_kid.mpr ⟨by omega, hin.2, rfl⟩
  have hlm := least_mem (ks := ks) (List.ne_nil_of_mem hck)
  have hne : leastC ks (kidL ks.length w ((c - 1) / w)) ≠ c := by simpa using hp
  refine ⟨(in_bel hw h12 h1 hpl).mp hm, hlm, ?_⟩
  have x := least_le (ks := ks) hck
  have y := key_ne hnd (mem_kid.mp hlm).2.1 hin.2 hne
  omega
end
end
end Tw

set_option Elab.async false
set_option linter.all false
set_option maxRecDepth 100000
set_option maxHeartbeats 2000000
namespace Tw
open PySem PySem.Spec PyProof.Rows L2
section
variable {P : Program} {w : World} {K : PySem.W.Frag} {mg : Str → Option Value} {base : Heap} {A : Ad}
open LamX (ExtN Tabs TabS)
/-! what a push came of -/
theorem end_app (l : List Nat) (p b : Nat) : endOf p (l ++ [b]) = b := by
  unfold endOf
  simp
theorem down_app {n w : Nat} : ∀ (l : List Nat) (p b : Nat), Down n w p l → b ∈ kidL n w (endOf p l) → Down n w p (l ++ [b])
  | [], p, b, _, h => ⟨h, trivial⟩
  | c :: l, p, b, ⟨h1, h2⟩, h => ⟨h1, down_app l c b h2 (by rw [end_cons] at h; exact h)⟩
theorem dn_app : ∀ (l : List Nat) (ks : List Int) (p b : Nat), dnS ks p (l ++ [b]) = swp (dnS ks p l) (endOf p l) b
  | [], ks, p, b => rfl
  | c :: l, ks, p, b => by
    show dnS (swp ks p c) c (l ++ [b]) = swp (dnS (swp ks p c) c l) _ b
    rw [dn_app l, end_cons]
theorem up_back {n w : Nat} (hw : 1 ≤ w) : ∀ (f : Nat) (x : List Int) (p : Nat) (way : List Nat) (lk : Nat), x.length = n → p < n → way.getLastD 0 = p →
    ∃ l, Down n w ((goUp w f x p way lk).2.1.getLastD 0) l ∧ endOf ((goUp w f x p way lk).2.1.getLastD 0) l = p ∧ x = dnS (goUp w f x p way lk).1 ((goUp w f x p way lk).2.1.getLastD 0) l ∧ (goUp w f x p way lk).2.1.getLastD 0 < n
  | 0, x, p, way, lk, hx, hp, hl => ⟨[], trivial, by show way.getLastD 0 = p; exact hl, rfl, by show way.getLastD 0 < n; omega⟩
  | f + 1, x, p, way, lk, hx, hp, hl => by
    have stop : ∃ l, Down n w (way.getLastD 0) l ∧ endOf (way.getLastD 0) l = p ∧ x = dnS x (way.getLastD 0) l ∧ way.getLastD 0 < n := ⟨[], trivial, hl, rfl, by omega⟩
    unfold goUp
    by_cases h0 : p = 0
    · rw [if_pos h0]
      exact stop
    · rw [if_neg h0]
      by_cases h : keyAt x p < keyAt x ((p - 1) / w)
      · rw [if_pos h]
        have hd := Nat.div_le_self (p - 1) w
        obtain ⟨l, h1, h2, h3, h4⟩ := up_back hw f (swp x p ((p - 1) / w)) ((p - 1) / w) (way ++ [(p - 1) / w]) (lk + 1) (by rw [swp_len, hx]) (by omega) (by simp)
        refine ⟨l ++ [p], down_app l _ p h1 (mem_kid.mpr ⟨by omega, hp, by rw [h2]⟩), end_app _ _ _, ?_, h4⟩
        rw [dn_app, ← h3, h2, swp_swp (by omega) (by omega) (by omega)]
      · rw [if_neg h]
        exact stop
theorem down_way {n w : Nat} (hw : 1 ≤ w ∧ w ≤ 4) (hn : n ≤ 12) : ∀ (l : List Nat) (p : Nat), p < n → Down n w p l → wayL w (endOf p l) = wayL w p ++ l
  | [], p, _, _ => by
    show wayL w p = _
    rw [List.append_nil]
  | b :: l, p, hp, ⟨hb, hd⟩ => by
    obtain ⟨m1, m2, m3⟩ := mem_kid.mp hb
    rw [end_cons, down_way hw hn l b m2 hd, way_rec w b hw (by omega) (by omega), m3, List.append_assoc]
    rfl
theorem way_par0 : ∀ w, w < 5 → ∀ i, i < 13 → 1 ≤ w → ((wayL w i).all fun c => (wayL w i).all fun o => c == 0 || o == 0 || !((c - 1) / w == (o - 1) / w) || c == o) = true := by decide +kernel
theorem way_par1 (w : Nat) (h5 : w < 5) (i : Nat) (hi : i < 13) (h1 : 1 ≤ w) (c : Nat) (hc : c ∈ wayL w i) (o : Nat) (ho : o ∈ wayL w i) (c0 : 0 < c) (o0 : 0 < o) (h : (c - 1) / w = (o - 1) / w) : c = o := by
  have := List.all_eq_true.mp (List.all_eq_true.mp (way_par0 w h5 i hi h1) c hc) o ho
  rw [h, beq_self_eq_true, beq_eq_false_iff_ne.mpr (show c ≠ 0 by omega), beq_eq_false_iff_ne.mpr (show o ≠ 0 by omega)] at this
  exact eq_of_beq (by simpa using this)
instance (w : Nat) (ks bs : List Int) (key : Int) (place : Nat) : Decidable (undP w ks bs key place) := by unfold undP; infer_instance
instance (w : Nat) (ks : List Int) (place one other : Nat) : Decidable (stkP w ks place one other) := by unfold stkP; infer_instance
section
variable {w place : Nat} {ks bs : List Int} {key : Int}
theorem und_eq (hw : 1 ≤ w ∧ w ≤ 4) (h12 : ks.length ≤ 12) (h : undP w ks bs key place) : bs ++ [key] = dnS ks place (belL w ks.length place) ∧ place ∈ wayL w (ks.length - 1) := by
  obtain ⟨h1, h2, h3, h4⟩ := h
  obtain ⟨l, d1, d2, d3, d4⟩ := up_back (n := ks.length) hw.1 20 (bs ++ [key]) bs.length [bs.length] 0 (by rw [List.length_append, List.length_singleton]; exact h1) (by omega) rfl
  have e1 : (goUp w 20 (bs ++ [key]) bs.length [bs.length] 0).1 = ks := h3
  have e2 : (goUp w 20 (bs ++ [key]) bs.length [bs.length] 0).2.1.getLastD 0 = place := h4
  rw [e2] at d1 d2 d3 d4
  rw [e1] at d3
  have hdw := down_way hw h12 l place d4 d1
  rw [d2, show bs.length = ks.length - 1 by omega] at hdw
  have hl : belL w ks.length place = l := by
    unfold belL
    rw [hdw, List.drop_left]
  refine ⟨by rw [hl]; exact d3, ?_⟩
  rw [hdw]
  exact List.mem_append_left _ (self_sub w (by omega) place (by omega) hw.1)
theorem und_one (hw : 1 ≤ w ∧ w ≤ 4) (h12 : ks.length ≤ 12) (h : undP w ks bs key place) : bs = undR w ks place := by
  obtain ⟨e, _⟩ := und_eq hw h12 h
  unfold undR
  rw [← e, show ks.length - 1 = bs.length by have := h.1; omega, List.take_left']
  rfl
theorem und_free (hw : 1 ≤ w ∧ w ≤ 4) (h12 : ks.length ≤ 12) (hnd : ks.Nodup) (h : undP w ks bs key place) : badL ks.length w ks (belL w ks.length place) = none := by
  obtain ⟨e, hpl⟩ := und_eq hw h12 h
  obtain ⟨h1, h2, _, _⟩ := h
  have hk1 : 1 ≤ ks.length := by omega
  have hb : ∀ o, badL ks.length w ks (belL w ks.length place) ≠ some o := fun c hb => by
    obtain ⟨⟨c1, c2⟩, o1, o2⟩ := stk_ok hw h12 hk1 hnd hpl hb
    obtain ⟨b1, b2, b3, b4⟩ := bel_ok hw h12 hk1 hpl
    have hcl := (in_bel hw h12 hk1 hpl).mpr ⟨c1, c2⟩
    generalize leastC ks (kidL ks.length w ((c - 1) / w)) = o at *
    obtain ⟨m1, m2, m3⟩ := mem_kid.mp o1
    have hcn := ((down_lt hw.1 _ _ b1 b2).1 c hcl).2
    have hno : o ∉ wayL w (ks.length - 1) := fun z => by
      have := way_par1 w (by omega) (ks.length - 1) (by omega) hw.1 o z c c1 (by omega) (by omega) m3
      subst this
      omega
    have hon : o ≠ ks.length - 1 := fun z => hno (by rw [z]; exact self_sub w (by omega) _ (by omega) hw.1)
    have hoP : o ∉ place :: belL w ks.length place := fun z => by
      rcases List.mem_cons.mp z with z | z
      · exact hno (by rw [z]; exact hpl)
      · exact hno ((in_bel hw h12 hk1 hpl).mp z).1
    have kx : ∀ q, q < bs.length → keyAt bs q = keyAt (dnS ks place (belL w ks.length place)) q := fun q hq => by
      rw [← e]
      unfold keyAt
      rw [List.getD_eq_getElem?_getD, List.getD_eq_getElem?_getD, List.getElem?_append_left hq]
    have hbe := fault_heap hw (show bs.length ≤ 12 by omega) rfl h2 o m1 (by omega)
    have hd := Nat.div_le_self (c - 1) w
    have hde : (c - 1) / w < bs.length := by omega
    obtain ⟨j, hj, ej⟩ := List.mem_iff_getElem.mp hcl
    have g1 := (down_get hw.1 _ place b1 b2 j hj).1
    have g2 := nxt_get hw.1 _ place b1 b2 j hj
    rw [ej] at g1 g2
    rw [← g1] at g2
    have hpm : (c - 1) / w ∈ place :: belL w ks.length place := by
      rw [g1, List.getD_eq_getElem?_getD, List.getElem?_eq_getElem (by rw [List.length_cons]; omega)]
      exact List.getElem_mem _
    rw [m3, kx _ hde, kx _ (by omega), dn_at hw.1 _ ks place rfl b1 b2, dn_at hw.1 _ ks place rfl b1 b2, b3, if_neg (by omega), if_pos hpm, g2, if_neg hon, if_neg hoP] at hbe
    omega
  cases hc : badL ks.length w ks (belL w ks.length place) with
  | none => rfl
  | some o => exact absurd hc (hb o)
end
theorem nodup_lt {l : List (List Int)} (h : l.Pairwise (· < ·)) : l.Nodup := h.imp fun hab z => by
  subst z
  exact List.lt_irrefl _ hab
theorem allH_nodup (l : List Int) (w : Nat) : (allH l w).Nodup := by
  rw [allH_perms]
  exact (nodup_lt (perms_asc _ _)).filter _
theorem allH_mem {l r : List Int} {w : Nat} (hw : 1 ≤ w ∧ w ≤ 4) (h12 : l.length ≤ 12) : r ∈ allH l w ↔ r.Perm l ∧ faultL r w = [] := by
  rw [allH_perms, List.mem_filter, heapB_iff]
  refine ⟨fun ⟨a, b⟩ => ?_, fun ⟨a, b⟩ => ?_⟩
  · have hp := perms_perm _ _ _ rfl a
    exact ⟨hp, heap_fault rfl b⟩
  · refine ⟨?_, fault_heap hw (by rw [a.length_eq]; exact h12) rfl b⟩
    have := perm_mem r l a
    rw [a.length_eq] at this
    exact this
theorem filter_one {l : List (List Int)} (hd : l.Nodup) {p : List Int → Bool} {x : List Int} (hx : x ∈ l) (hp : p x = true) (h : ∀ y ∈ l, p y = true → y = x) : l.filter p = [x] := by
  induction l with
  | nil => cases hx
  | cons a l ih =>
    have hd := List.nodup_cons.mp hd
    by_cases e : a = x
    · subst e
      rw [List.filter_cons_of_pos hp]
      congr 1
      refine List.filter_eq_nil_iff.mpr fun y hy z => hd.1 ?_
      rw [← h y (List.mem_cons_of_mem _ hy) z]
      exact hy
    · rw [List.filter_cons_of_neg (fun z => e (h a List.mem_cons_self z))]
      exact ih hd.2 ((List.mem_cons.mp hx).resolve_left fun z => e z.symm) fun y hy => h y (List.mem_cons_of_mem _ hy)
/-- the heaps ahead -/
theorem ahead_is {w place : Nat} {ks rs : List Int} (hw : 1 ≤ w ∧ w ≤ 4) (h12 : ks.length ≤ 12) (h1 : 1 ≤ ks.length) (hf : faultL ks w = []) (hnd : ks.Nodup) (hpl : place ∈ wayL w (ks.length - 1)) (hrs : (keyAt ks place :: rs).Perm ks) :
    ((allH rs w).filter fun r => decide (undP w ks r (keyAt ks place) place)) = if badL ks.length w ks (belL w ks.length place) = none then [undR w ks place] else [] := by
  have hrl : rs.length + 1 = ks.length := by
    have := hrs.length_eq
    rw [List.length_cons] at this
    exact this
  by_cases hb : badL ks.length w ks (belL w ks.length place) = none
  · rw [if_pos hb]
    obtain ⟨hu, hm⟩ := und_ok hw h12 h1 hf hnd hpl hb
    refine filter_one (allH_nodup rs w) ((allH_mem hw (by omega)).mpr ⟨?_, hu.2.1⟩) (decide_eq_true hu) fun y hy hp => und_one hw h12 (of_decide_eq_true hp)
    obtain ⟨e, _⟩ := und_eq hw h12 hu
    obtain ⟨b1, b2, _, _⟩ := bel_ok hw h12 h1 hpl
    have hp := dn_perm hw.1 _ ks place rfl b1 b2
    rw [← e] at hp
    have h2 : (keyAt ks place :: undR w ks place).Perm (keyAt ks place :: rs) := (List.perm_append_comm (l₁ := [keyAt ks place])).trans (hp.trans hrs.symm)
    exact List.Perm.cons_inv h2
  · rw [if_neg hb]
    refine List.filter_eq_nil_iff.mpr fun y _ z => hb (und_free hw h12 hnd (of_decide_eq_true z))

end
end Tw

set_option Elab.async false
set_option linter.all false
set_option maxRecDepth 100000
set_option maxHeartbeats 2000000
namespace Tw
open PySem PySem.Spec PyProof.Rows L2
section
variable {P : Program} {w : World} {K : PySem.W.Frag} {mg : Str → Option Value} {base : Heap} {A : Ad}
open LamX (ExtN Tabs TabS)
/-- a list or a tuple -/
def Sq (H : Hp) (a : Addr) (xs : List V) : Prop := H a = some (.lst xs) ∨ H a = some (.tup xs)
def RowIn (H : Hp) (a : Addr) (ns : List Int) : Prop := Sq H a (ns.map V.int) ∧ ns.length ≤ 12 ∧ (∀ n ∈ ns, -1000000000 ≤ n ∧ n ≤ 1000000000)
theorem b_dep (T : Tx K mg A) : L2.Binds K A.d_t_depth ["self", "place"] [] := T.F_t_depth.binds fun _ _ _ _ _ _ us hl => match us, hl with | [_, _], _ => rfl
theorem b_iter (T : Tx K mg A) : L2.Binds K A.d_t___iter__ ["self"] [] := T.F_t___iter__.binds fun _ _ _ _ _ _ us hl => match us, hl with | [_], _ => rfl
theorem kb_init (T : Tx K mg A) : ∃ mv : List Value, KBn K A.d_t___init__ ["self", "many", "arms"] 2 ["arms"] (fun us ws => us ++ (mv ++ ws)) (fun vs zs => vs ++ zs) := by
  obtain ⟨mv, h⟩ := T.F_t___init__.kbinds0 (ps := ["self", "many", "arms"]) 2 ["arms"] [] (fun us mv ws => us ++ (mv ++ ws)) (by simp) (by simp) (fun r1 r2 r3 => r1.append (r2.append r3))
    (fun D doc pm an cdv ct us mv ws h1 h2 h3 => by
      match us, mv, ws, h1, h2, h3 with
      | [a, b], [], [c], _, _, _ => rfl)
  exact ⟨mv, h⟩
theorem kb_of (T : Tx K mg A) : ∃ mv : List Value, KBn K A.d_t_of ["cls", "row", "arms"] 2 ["arms"] (fun us ws => us ++ (mv ++ ws)) (fun vs zs => vs ++ zs) := by
  obtain ⟨mv, h⟩ := T.F_t_of.kbinds0 (ps := ["cls", "row", "arms"]) 2 ["arms"] [] (fun us mv ws => us ++ (mv ++ ws)) (by simp) (by simp) (fun r1 r2 r3 => r1.append (r2.append r3))
    (fun D doc pm an cdv ct us mv ws h1 h2 h3 => by
      match us, mv, ws, h1, h2, h3 with
      | [a, b], [], [c], _, _, _ => rfl)
  exact ⟨mv, h⟩
theorem kb_push (T : Tx K mg A) : ∃ mv : List Value, KBn K A.d_push ["row", "key", "arms"] 2 ["arms"] (fun us ws => us ++ (mv ++ ws)) (fun vs zs => vs ++ zs) := by
  obtain ⟨mv, h⟩ := T.F_push.kbinds0 (ps := ["row", "key", "arms"]) 2 ["arms"] [] (fun us mv ws => us ++ (mv ++ ws)) (by simp) (by simp) (fun r1 r2 r3 => r1.append (r2.append r3))
    (fun D doc pm an cdv ct us mv ws h1 h2 h3 => by
      match us, mv, ws, h1, h2, h3 with
      | [a, b], [], [c], _, _, _ => rfl)
  exact ⟨mv, h⟩
theorem keyAt_mem {ks : List Int} {p : Nat} (h : p < ks.length) : keyAt ks p ∈ ks := by
  unfold keyAt
  rw [List.getD_eq_getElem?_getD, List.getElem?_eq_getElem h]
  exact List.getElem_mem h
theorem key_at {ks : List Int} {p : Nat} (h : p < ks.length) : atI (ks.map V.int) (p : Int) = some (V.int (keyAt ks p)) := by
  have e : (ks.map V.int)[p]? = some (V.int (keyAt ks p)) := by
    unfold keyAt
    rw [List.getElem?_map, List.getD_eq_getElem?_getD, List.getElem?_eq_getElem h]
    rfl
  exact atI_nat e
/-- what stood before an instance was made stands behind its making -/
theorem new_same {C x dx : Addr} {H H' : Hp} (nx : H x = none) (ndx : H dx = none) (k : ∀ b o, (upd (upd H dx (.own x)) x (.ins C dx [])) b = some o → b ≠ x → H' b = some o) : Same H H' := fun b o e => by
  refine k b o ?_ (ne_of_none e nx)
  rw [upd_ne (ne_of_none e nx), upd_ne (ne_of_none e ndx)]
  exact e
theorem new_up {C x dx : Addr} {H : Hp} (nx : H x = none) (ndx : H dx = none) (nex : dx ≠ x) : Same H (upd (upd H dx (.own x)) x (.ins C dx [])) :=
  (Same.up ndx).trans (Same.up (by rw [upd_ne nex.symm]; exact nx))
/-- its attributes -/
def tf (n w t : Nat) : List (Str × V) := putF "_places" (.ref t) (putF "arms" (.int w) (putF "many" (.int n) []))
theorem tf_no (n w t : Nat) {m : Str} (h1 : ¬ m = "many") (h2 : ¬ m = "arms") (h3 : ¬ m = "_places") : (tf n w t).lookup m = none := by
  unfold tf
  rw [lookup_putF, if_neg h3, lookup_putF, if_neg h2, lookup_putF, if_neg h1]
  rfl
theorem b_way (T : Tx K mg A) : L2.Binds K A.d_t_way_to ["self", "place"] [] := T.F_t_way_to.binds fun _ _ _ _ _ _ us hl => match us, hl with | [_, _], _ => rfl
def vi (l : List Nat) : List V := l.map fun i => V.int (i : Nat)
theorem vi_len (l : List Nat) : (vi l).length = l.length := by unfold vi; rw [List.length_map]
/-- the places of a tree -/
def pl (n : Nat) : List V := (List.range n).map fun i => V.int (i : Nat)
/-- a tree of n places and w arms stands at p -/
structure TreeAt (C : Addr) (H : Hp) (p n w : Nat) : Prop where
  ob : ∃ dx t, H p = some (.ins C dx (tf n w t)) ∧ H t = some (.tup (pl n))
  hn : n ≤ 12
  hw : 1 ≤ w ∧ w ≤ 4
theorem TreeAt.same {C : Addr} {H H' : Hp} {p n w : Nat} (h : TreeAt C H p n w) (s : Same H H') : TreeAt C H' p n w :=
  ⟨let ⟨dx, t, a, b⟩ := h.ob; ⟨dx, t, s _ _ a, s _ _ b⟩, h.hn, h.hw⟩
theorem b_par (T : Tx K mg A) : L2.Binds K A.d_t_parent ["self", "place"] [] := T.F_t_parent.binds fun _ _ _ _ _ _ us hl => match us, hl with | [_, _], _ => rfl
theorem up_len : ∀ w, w < 5 → ∀ p, p < 13 → 1 ≤ w → (upL w p).length ≤ 13 := by decide +kernel
theorem vi_app (a b : List Nat) : vi (a ++ b) = vi a ++ vi b := by unfold vi; rw [List.map_append]
theorem vi_rev (a : List Nat) : (vi a).reverse = vi a.reverse := by unfold vi; rw [List.map_reverse]
/-- the parent as the program says it -/
def parV (w p : Nat) : V := if p = 0 then .non else .int ((p - 1) / w : Nat)
/-- True just for ints -/
def spIs (K : PySem.W.Frag) : Sp := fun vs H Q _ => ∃ x : V, vs = [x] ∧
  ((∃ i, x = .int i ∧ Q (.bl true) H) ∨ (∃ n b1 b2, TyX K H x (.type n) ∧ kitB n "int" = some b1 ∧ kitB n "bool" = some b2 ∧ (b1 && !b2) = false ∧ Q (.bl false) H))
theorem ok_is (T : Tx K mg A) : FnOk P w K mg base CX0 1 A.f_is_integer A.d_is_integer ["thing"] (spIs K) := by
  refine T.F_is_integer.ok sc_is_integer (fun vs H Q E h => ?_) (fun cdv B outer s H vs Q E hr h => ?_)
  · obtain ⟨x, rfl, _⟩ := h
    rfl
  · obtain ⟨x, rfl, h⟩ := h
    refine ⟨_, pss_one (ps_ret (pe_and (pe_callB call_isi (by rfl) T.g_isinstance (by decide +kernel) (pa_cons (pv 0) (pa_cons (pe_bltn (v := .ty "int") (by rfl) T.g_int (by decide +kernel) rfl) pa_nil)))
      (pe_one (pe_not (pe_callB call_isi (by rfl) T.g_isinstance (by decide +kernel) (pa_cons (pv 0) (pa_cons (pe_bltn (v := .ty "bool") (by rfl) T.g_bool (by decide +kernel) rfl) pa_nil))))))), ?_⟩
    rcases h with ⟨i, rfl, q⟩ | ⟨n, b1, b2, ty, k1, k2, hb, q⟩
    · refine ⟨_, rfl, _, _, .type "int", .type "int", true, rfl, .ty "int", .base (.int i), kit_ty (by decide +kernel), true, rfl, iteT ?_⟩
      exact ⟨_, rfl, _, _, .type "int", .type "bool", false, rfl, .ty "bool", .base (.int i), kit_ty (by decide +kernel), false, rfl, q⟩
    · refine ⟨_, rfl, _, _, .type n, .type "int", b1, rfl, .ty "int", ty, kit_ty k1, b1, rfl, ?_⟩
      cases b1 with
      | false => exact iteF q
      | true =>
        cases b2 with
        | false => cases hb
        | true => exact iteT ⟨_, rfl, _, _, .type n, .type "bool", true, rfl, .ty "bool", ty, kit_ty k2, true, rfl, q⟩
theorem b_is (T : Tx K mg A) : L2.Binds K A.d_is_integer ["thing"] [] := T.F_is_integer.binds fun _ _ _ _ _ _ us hl => match us, hl with | [_], _ => rfl
/-- True just for ints within; other things by their class -/
def spII (K : PySem.W.Frag) : Sp := fun vs H Q _ => ∃ (x : V) (a b : Int), vs = [x, .int a, .int b] ∧
  ((∃ i, x = .int i ∧ Q (.bl (decide (a ≤ i ∧ i ≤ b))) H) ∨ (∃ n b1 b2, TyX K H x (.type n) ∧ kitB n "int" = some b1 ∧ kitB n "bool" = some b2 ∧ (b1 && !b2) = false ∧ Q (.bl false) H))
theorem ok_ii (T : Tx K mg A) : FnOk P w K mg base CX0 2 A.f_is_integer_from A.d_is_integer_from ["thing", "least", "greatest"] (spII K) := by
  refine T.F_is_integer_from.ok sc_is_integer_from (fun vs H Q E h => ?_) (fun cdv B outer s H vs Q E hr h => ?_)
  · obtain ⟨x, a, b, rfl, _⟩ := h
    rfl
  · obtain ⟨x, a, b, rfl, h⟩ := h
    refine ⟨_, pss_one (ps_ret (pe_and (pe_call (ok_is T) hr (by rfl) T.m_is_integer T.F_is_integer.kp (b_is T) .nil pass0 (pa_cons (pv 0) pa_nil))
        (pe_one (pe_chain op_le op_le (pv 1) (pv 0) (pv 2))))), ?_⟩
    rcases h with ⟨i, rfl, q⟩ | h
    · refine ⟨_, rfl, _, rfl, .inl ⟨i, rfl, true, rfl, iteT ?_⟩⟩
      refine ⟨_, rfl, _, rfl, _, _, rfl, rfl, _, rfl, ?_⟩
      by_cases h1 : a ≤ i
      · rw [decide_eq_true h1]
        refine iteT ⟨_, rfl, _, _, rfl, rfl, ?_⟩
        have e : decide (a ≤ i ∧ i ≤ b) = decide (i ≤ b) := by simp [h1]
        rw [e] at q
        exact q
      · rw [decide_eq_false h1]
        have e : decide (a ≤ i ∧ i ≤ b) = false := by simp [h1]
        rw [e] at q
        exact iteF q
    · obtain ⟨n, b1, b2, ty, k1, k2, hb, q⟩ := h
      exact ⟨_, rfl, _, rfl, .inr ⟨n, b1, b2, ty, k1, k2, hb, false, rfl, iteF q⟩⟩
theorem b_ii (T : Tx K mg A) : L2.Binds K A.d_is_integer_from ["thing", "least", "greatest"] [] := T.F_is_integer_from.binds fun _ _ _ _ _ _ us hl => match us, hl with | [_, _, _], _ => rfl
def spCp : Sp := fun vs H Q _ => ∃ i n : Int, vs = [.int i, .int n] ∧ (0 ≤ i ∧ i < n) ∧ Q .non H
theorem ok_cp (T : Tx K mg A) : FnOk P w K mg base CX0 3 A.f_check_place A.d_check_place ["place", "many"] spCp := by
  refine T.F_check_place.ok sc_check_place (fun vs H Q E h => ?_) (fun cdv B outer s H vs Q E hr h => ?_)
  · obtain ⟨i, n, rfl, _⟩ := h
    rfl
  · obtain ⟨i, n, rfl, hi, q⟩ := h
    refine ⟨_, pss_one (ps_if (pt_not (pt_val (pe_call (ok_ii T) hr (by rfl) T.m_is_integer_from T.F_is_integer_from.kp (b_ii T) .nil pass0
      (pa_cons (pv 0) (pa_cons pe_int (pa_cons (pe_op op_sub (pv 1) pe_int) pa_nil)))))) (pss_one ps_never) pss_nil), ?_⟩
    refine ⟨_, rfl, _, rfl, _, _, rfl, rfl, _, _, _, rfl, .inl ⟨i, rfl, _, rfl, ?_⟩⟩
    rw [decide_eq_true (show 0 ≤ i ∧ i ≤ n - 1 by omega)]
    exact iteF q
theorem b_cp (T : Tx K mg A) : L2.Binds K A.d_check_place ["place", "many"] [] := T.F_check_place.binds fun _ _ _ _ _ _ us hl => match us, hl with | [_, _], _ => rfl
theorem n1 : ¬ (("many" : Str) = "arms") := by decide +kernel
theorem n2 : ¬ (("many" : Str) = "_places") := by decide +kernel
theorem tf_many (n w t : Nat) : (tf n w t).lookup ("many" : Str) = some (.int n) := by
  unfold tf
  rw [lookup_putF, if_neg n2, lookup_putF, if_neg n1, lookup_putF, if_pos rfl]
theorem n3 : ¬ (("arms" : Str) = "_places") := by decide +kernel
theorem tf_arms (n w t : Nat) : (tf n w t).lookup ("arms" : Str) = some (.int w) := by
  unfold tf
  rw [lookup_putF, if_neg n3, lookup_putF, if_pos rfl]
def spPar (C : Addr) : Sp := fun vs H Q _ => ∃ (p n w i : Nat), vs = [.ref p, .int i] ∧ TreeAt C H p n w ∧ i < n ∧ Q (parV w i) H
theorem ok_par (T : Tx K mg A) : FnOk P w K mg base CX0 4 A.f_t_parent A.d_t_parent ["self", "place"] (spPar A.C) := by
  refine T.F_t_parent.ok sc_t_parent (fun vs H Q E h => ?_) (fun cdv B outer s H vs Q E hr h => ?_)
  · obtain ⟨p, n, w, i, rfl, _⟩ := h
    rfl
  · obtain ⟨p, n, w, i, rfl, t, hi, q⟩ := h
    obtain ⟨dx, l, h1, h2⟩ := t.ob
    refine ⟨_, pss_cons (ps_expr (pe_call (ok_cp T) hr (by rfl) T.m_check_place T.F_check_place.kp (b_cp T) .nil pass0 (pa_cons (pv 1) (pa_cons (pe_fld (pv 0) rfl) pa_nil))))
      (pss_cons (ps_if (pt_cmpR op_eq (pv 1) pe_int (nomark _)) (pss_one (ps_ret pe_non)) pss_nil)
      (pss_one (ps_ret (pe_op op_fdivN (pe_op op_sub (pv 1) pe_int) (pe_fld (pv 0) rfl))))), ?_⟩
    refine ⟨_, rfl, _, rfl, p, A.C, dx, _, _, rfl, h1, T.cT, T.nMany, tf_many _ _ _, _, _, rfl, ⟨by omega, by omega⟩, ?_⟩
    refine ⟨_, rfl, rfl, _, rfl, ?_⟩
    by_cases h0 : i = 0
    · rw [decide_eq_true (show V.int (i : Nat) = V.int 0 by rw [h0]; rfl)]
      refine iteT ?_
      unfold parV at q
      rw [if_pos h0] at q
      exact q
    · rw [decide_eq_false (show ¬ V.int (i : Nat) = V.int 0 by intro z; injection z with z; omega)]
      refine iteF ?_
      refine ⟨_, rfl, _, _, rfl, rfl, _, rfl, p, A.C, dx, _, _, rfl, h1, T.cT, T.nArms, tf_arms _ _ _, _, _, rfl, rfl, ⟨by have := t.hw; omega, by have := t.hw; omega⟩, ?_⟩
      unfold parV at q
      rw [if_neg h0] at q
      have e : Int.fdiv ((i : Int) - 1) (w : Int) = ((i - 1) / w : Nat) := by
        rw [Int.fdiv_eq_ediv_of_nonneg _ (by omega), show ((i : Int) - 1) = ((i - 1 : Nat) : Int) by omega]
        rfl
      show Q (V.int (Int.fdiv ((i : Int) - 1) (w : Int))) H
      rw [e]
      exact q
/-- a number that falls while a place goes up -/
def muV : Option (Option V) → Nat
  | some (some (V.int z)) => z.toNat + 1
  | _ => 0
def spWay (C : Addr) : Sp := fun vs H Q _ => ∃ (p n w i : Nat), vs = [.ref p, .int i] ∧ TreeAt C H p n w ∧ i < n ∧ ∀ H' q, Same H H' → H q = none → H' q = some (.tup (vi (wayL w i))) → Q (.ref q) H'
theorem ok_way (T : Tx K mg A) : FnOk P w K mg base CX0 5 A.f_t_way_to A.d_t_way_to ["self", "place"] (spWay A.C) := by
  refine T.F_t_way_to.ok sc_t_way_to (fun vs H Q E h => ?_) (fun cdv B outer s H vs Q E hr h => ?_)
  · obtain ⟨p, n, w, i, rfl, _⟩ := h
    rfl
  · obtain ⟨p, n, w, i, rfl, t, hi, q⟩ := h
    refine ⟨_, pss_cons (ps_set (i := 2) sc_t_way_to.nd rfl (Or.inl rfl) (pe_lst (pa_cons (pv 1) pa_nil)))
      (pss_cons (ps_set (i := 3) sc_t_way_to.nd rfl (Or.inl rfl) (pe_meth (pv 0) T.cT T.M_t_parent (ok_par T) hr (b_par T) .nil pass0 (pa_cons (pv 1) pa_nil)))
      (pss_cons (ps_while PassesOwn.never (pt_cmpR op_notN (pv 3) pe_non (nomark _))
        (pss_cons (ps_expr (pe_bm PySem.F.plainAttrs_list PySem.F.slot_list_append PySem.F.type_list_append mt_append (pv 2) (pa_cons (pv 3) pa_nil)))
        (pss_one (ps_set (i := 3) sc_t_way_to.nd rfl (Or.inl rfl) (pe_meth (pv 0) T.cT T.M_t_parent (ok_par T) hr (b_par T) .nil pass0 (pa_cons (pv 3) pa_nil))))))
      (pss_one (ps_ret (pe_callTy call_tuple_of (by rfl) T.g_tuple (by decide +kernel) (pa_cons (pe_revL (pv 2)) pa_nil)))))), ?_⟩
    obtain ⟨dx, l, h1, h2⟩ := t.ob
    have noP : (tf n w l).lookup ("parent" : Str) = none := tf_no _ _ _ (by decide +kernel) (by decide +kernel) (by decide +kernel)
    refine ⟨_, rfl, by show 1 ≤ sizeLine; decide, fun d hd => ?_⟩
    have s1 : Same H (upd H d (.lst [V.int (i : Nat)])) := Same.up hd
    refine ⟨_, rfl, p, dx, _, rfl, s1 _ _ h1, noP, _, rfl, p, n, w, i, rfl, t.same s1, hi, ?_⟩
    refine while_by (fun σ H' => ∃ (c : Nat) (acc : List Nat), σ = [some (.ref p), some (.int i), some (.ref d), some (parV w c)] ∧ c < n ∧ Acc H d (vi (acc ++ [c])) H' ∧ acc ++ upL w c = upL w i ∧ acc.length ≤ 12)
      (fun σ _ => muV σ[3]?) ⟨i, [], rfl, hi, ⟨s1, hd, upd_same⟩, rfl, Nat.zero_le _⟩ ?_ ?_
    · rintro σ H' ⟨c, acc, rfl, hc, ac, ea, hl⟩
      have hn := t.hn
      have hw := t.hw
      have eu := up_eq w (by omega) c (by omega) hw.1
      refine ⟨_, rfl, rfl, _, rfl, ?_⟩
      by_cases h0 : c = 0
      · have ev : parV w c = V.non := by unfold parV; rw [if_pos h0]
        rw [ev, decide_eq_true (rfl : V.non = V.non)]
        refine iteF ?_
        rw [if_pos h0] at eu
        refine ⟨_, rfl, d, _, rfl, SqL.of ac.a, fun r hr0 => ⟨r, _, rfl, .inl ⟨SqL.of upd_same, fun u hu => q _ u (ac.s.trans ((Same.up hr0).trans (Same.up hu))) (ac.s.free ((Same.up hr0).free hu)) ?_⟩⟩⟩
        unfold wayL
        rw [upd_same, vi_rev, ← ea, eu, h0]
      · have ev : parV w c = V.int ((c - 1) / w : Nat) := by unfold parV; rw [if_neg h0]
        rw [ev, decide_eq_false (show ¬ V.int ((c - 1) / w : Nat) = V.non from fun z => nomatch z)]
        refine iteT ?_
        rw [if_neg h0] at eu
        have hlt : (c - 1) / w < c := Nat.lt_of_le_of_lt (Nat.div_le_self _ _) (by omega)
        have hL : acc.length + 1 + (upL w ((c - 1) / w)).length = (upL w i).length := by
          rw [← ea, eu, List.length_append, List.length_cons]
          omega
        have hL2 := up_len w (by omega) i (by omega) hw.1
        have hL3 := up_eq w (by omega) ((c - 1) / w) (by omega) hw.1
        have hL4 : 1 ≤ (upL w ((c - 1) / w)).length := by
          rw [hL3]
          split
          · exact Nat.le_refl _
          · rw [List.length_cons]; omega
        refine ⟨_, rfl, .inl ⟨rfl, _, SqL.of ac.a⟩, _, rfl, d, _, _, rfl, rfl, ac.a, small1000 (by rw [vi_len, List.length_append, List.length_singleton]; omega), ?_⟩
        have e2 : vi (acc ++ [c]) ++ [V.int ((c - 1) / w : Nat)] = vi (acc ++ [c] ++ [(c - 1) / w]) := by rw [vi_app (acc ++ [c])]; rfl
        rw [e2]
        have ac2 : Acc H d (vi (acc ++ [c] ++ [(c - 1) / w])) (upd H' d (.lst (vi (acc ++ [c] ++ [(c - 1) / w])))) := ac.push
        refine ⟨_, rfl, p, dx, _, rfl, ac2.s _ _ h1, noP, _, rfl, p, n, w, (c - 1) / w, rfl, t.same ac2.s, by omega, ?_⟩
        refine ⟨⟨(c - 1) / w, acc ++ [c], rfl, by omega, ac2, ?_, by rw [List.length_append, List.length_singleton]; omega⟩, ?_⟩
        · rw [← ea, eu, List.append_assoc]
          rfl
        · show muV (some (some (parV w ((c - 1) / w)))) < muV (some (some (V.int ((c - 1) / w : Nat))))
          unfold parV
          split
          · show 0 < _
            exact Nat.succ_pos _
          · rename_i h9
            show (((((c - 1) / w - 1) / w : Nat) : Int)).toNat + 1 < ((((c - 1) / w : Nat) : Int)).toNat + 1
            rw [Int.toNat_natCast, Int.toNat_natCast]
            exact Nat.succ_lt_succ (Nat.lt_of_le_of_lt (Nat.div_le_self _ _) (Nat.sub_lt (Nat.pos_of_ne_zero h9) Nat.one_pos))
    · rintro σ' H1 Q1 Q2 mono ⟨v, hv, e1, b1, e2, z⟩
      exact ⟨v, hv, e1, b1, e2, mono _ _ z⟩
def spDep (C : Addr) : Sp := fun vs H Q _ => ∃ (p n w i : Nat), vs = [.ref p, .int i] ∧ TreeAt C H p n w ∧ i < n ∧ ∀ H', Same H H' → Q (.int (((wayL w i).length : Int) - 1)) H'
theorem ok_dep (T : Tx K mg A) : FnOk P w K mg base CX0 6 A.f_t_depth A.d_t_depth ["self", "place"] (spDep A.C) := by
  refine T.F_t_depth.ok sc_t_depth (fun vs H Q E h => ?_) (fun cdv B outer s H vs Q E hr h => ?_)
  · obtain ⟨p, n, w, i, rfl, _⟩ := h
    rfl
  · obtain ⟨p, n, w, i, rfl, t, hi, q⟩ := h
    obtain ⟨dx, l, h1, h2⟩ := t.ob
    have noW : (tf n w l).lookup ("way_to" : Str) = none := tf_no _ _ _ (by decide +kernel) (by decide +kernel) (by decide +kernel)
    refine ⟨_, pss_one (ps_ret (pe_op op_sub (pe_callB call_len_seq (by rfl) T.g_len PySem.boot_len (pa_cons (pe_meth (pv 0) T.cT T.M_t_way_to (ok_way T) hr (b_way T) .nil pass0 (pa_cons (pv 1) pa_nil)) pa_nil)) pe_int)), ?_⟩
    refine ⟨_, rfl, p, dx, _, rfl, h1, noW, _, rfl, p, n, w, i, rfl, t, hi, fun H1 r s1 r0 hr1 => ?_⟩
    refine ⟨r, _, rfl, .inr (SqT.of hr1), _, _, rfl, rfl, ?_⟩
    rw [vi_len]
    exact q _ s1
theorem cst {x : Str} {n : Int} (h : mg x = some (.int n 0) ∨ ∃ t, mg x = some (.int n t)) : ∃ t, mg x = some (.int n t) := h.elim (fun e => ⟨0, e⟩) id
def spCa : Sp := fun vs H Q _ => ∃ i : Int, vs = [.int i] ∧ (1 ≤ i ∧ i ≤ 4) ∧ Q .non H
theorem ok_ca (T : Tx K mg A) : FnOk P w K mg base CX0 3 A.f_check_arms A.d_check_arms ["arms"] spCa := by
  refine T.F_check_arms.ok sc_check_arms (fun vs H Q E h => ?_) (fun cdv B outer s H vs Q E hr h => ?_)
  · obtain ⟨i, rfl, _⟩ := h
    rfl
  · obtain ⟨i, rfl, hi, q⟩ := h
    obtain ⟨t, hg⟩ := cst T.c_MOST_ARMS
    refine ⟨_, pss_one (ps_if (pt_not (pt_val (pe_call (ok_ii T) hr (by rfl) T.m_is_integer_from T.F_is_integer_from.kp (b_ii T) .nil pass0
      (pa_cons (pv 0) (pa_cons pe_int (pa_cons (pe_glob (by rfl) hg (relI _ _)) pa_nil)))))) (pss_one ps_never) pss_nil), ?_⟩
    refine ⟨_, rfl, _, _, _, rfl, .inl ⟨i, rfl, _, rfl, ?_⟩⟩
    rw [decide_eq_true hi]
    exact iteF q
theorem b_ca (T : Tx K mg A) : L2.Binds K A.d_check_arms ["arms"] [] := T.F_check_arms.binds fun _ _ _ _ _ _ us hl => match us, hl with | [_], _ => rfl
def spCm : Sp := fun vs H Q _ => ∃ i : Int, vs = [.int i] ∧ (0 ≤ i ∧ i ≤ 12) ∧ Q .non H
theorem ok_cm (T : Tx K mg A) : FnOk P w K mg base CX0 3 A.f_check_many A.d_check_many ["many"] spCm := by
  refine T.F_check_many.ok sc_check_many (fun vs H Q E h => ?_) (fun cdv B outer s H vs Q E hr h => ?_)
  · obtain ⟨i, rfl, _⟩ := h
    rfl
  · obtain ⟨i, rfl, hi, q⟩ := h
    obtain ⟨t, hg⟩ := cst T.c_MOST_PLACES
    refine ⟨_, pss_one (ps_if (pt_not (pt_val (pe_call (ok_ii T) hr (by rfl) T.m_is_integer_from T.F_is_integer_from.kp (b_ii T) .nil pass0
      (pa_cons (pv 0) (pa_cons pe_int (pa_cons (pe_glob (by rfl) hg (relI _ _)) pa_nil)))))) (pss_one ps_never) pss_nil), ?_⟩
    refine ⟨_, rfl, _, _, _, rfl, .inl ⟨i, rfl, _, rfl, ?_⟩⟩
    rw [decide_eq_true hi]
    exact iteF q
theorem b_cm (T : Tx K mg A) : L2.Binds K A.d_check_many ["many"] [] := T.F_check_many.binds fun _ _ _ _ _ _ us hl => match us, hl with | [_], _ => rfl
theorem rg_pl (n : Nat) : rgV 0 (n : Int) = pl n := by
  unfold rgV pl
  rw [show ((n : Int) - 0).toNat = n by omega]
  exact congrArg (fun f => (List.range n).map f) (funext fun i => by rw [Int.zero_add])
def spInit (C : Addr) : Sp := fun vs H Q _ => ∃ (p dx n w : Nat), vs = [.ref p, .int n, .int w] ∧ n ≤ 12 ∧ (1 ≤ w ∧ w ≤ 4) ∧ H p = some (.ins C dx []) ∧
  ∀ (H' : Hp), (∀ b o, H b = some o → b ≠ p → H' b = some o) → TreeAt C H' p n w → Q .non H'
theorem ok_init (T : Tx K mg A) : FnOk P w K mg base CX0 4 A.f_t___init__ A.d_t___init__ ["self", "many", "arms"] (spInit A.C) := by
  refine T.F_t___init__.ok sc_t___init__ (fun vs H Q E h => ?_) (fun cdv B outer s H vs Q E hr h => ?_)
  · obtain ⟨p, dx, n, w, rfl, _⟩ := h
    rfl
  · obtain ⟨p, dx, n, w, rfl, hn, hw, hp, q⟩ := h
    refine ⟨_, PSs.nox (pss_cons (ps_expr (pe_call (ok_ca T) hr (by rfl) T.m_check_arms T.F_check_arms.kp (b_ca T) .nil pass0 (pa_cons (pv 2) pa_nil)))
      (pss_cons (ps_expr (pe_call (ok_cm T) hr (by rfl) T.m_check_many T.F_check_many.kp (b_cm T) .nil pass0 (pa_cons (pv 1) pa_nil)))
      (pss_cons (ps_fld (pv 0) (pv 1) rfl) (pss_cons (ps_fld (pv 0) (pv 2) rfl)
      (pss_one (ps_fld (pv 0) (pe_tupRg rfl (by rfl) T.g_tuple (prg_1 (by rfl) T.g_range (pv 1))) rfl)))))), ?_⟩
    refine ⟨_, rfl, _, rfl, ⟨by omega, by omega⟩, _, rfl, _, rfl, ⟨by omega, by omega⟩, ?_⟩
    refine ⟨_, rfl, _, rfl, p, A.C, dx, _, rfl, hp, T.cT, T.nMany, (by show 0 < 1000; decide), ?_⟩
    refine ⟨_, rfl, _, rfl, p, A.C, dx, _, rfl, upd_same, T.cT, T.nArms, (by show 1 < 1000; decide), ?_⟩
    refine ⟨_, rfl, _, rfl, RgOk.of_le (by omega) (by omega) (by omega) (by omega), fun t ht => ?_⟩
    have npt : p ≠ t := fun z => by
      rw [z, upd_same] at ht
      cases ht
    refine ⟨_, rfl, p, A.C, dx, _, rfl, Eq.trans (upd_ne npt) upd_same, T.cT, T.nPl, (by simp only [putF, n1, if_false]; show 2 < 1000; decide), ?_⟩
    refine q _ (fun b o e hb => ?_) ⟨⟨dx, t, upd_same, ?_⟩, hn, hw⟩
    · have nbt : b ≠ t := ne_of_none (by rw [upd_ne hb, upd_ne hb]; exact e) ht
      rw [upd_ne hb, upd_ne nbt, upd_ne hb, upd_ne hb]
      exact e
    · rw [upd_ne npt.symm, upd_same, rg_pl]
theorem ok_iter (T : Tx K mg A) : FnIt P w K mg base 2 A.f_t___iter__ A.d_t___iter__ ["self"] (spIter K A.C "_places") := by
  refine fnIt_of T.F_t___iter__ sc_t___iter__ (fun cdv B outer s H vs Q hr h => ?_)
  obtain ⟨a, dx, fs, t, zs, rfl, ha, hf, ht, q⟩ := h
  refine ⟨_, pss_one (ps_ret (pe_callB call_iterT (by rfl) T.g_iter (by decide +kernel) (pa_cons (pe_fld (pv 0) rfl) pa_nil))), ?_⟩
  exact ⟨_, rfl, a, A.C, dx, _, _, rfl, ha, T.cT, T.nPl, hf, t, zs, rfl, ht, q⟩
theorem Sq.same {H H' : Hp} {a : Addr} {xs : List V} (h : Sq H a xs) (s : Same H H') : Sq H' a xs := h.elim (fun e => .inl (s _ _ e)) fun e => .inr (s _ _ e)
/-- is_key of an int -/
def spKey : Sp := fun vs H Q _ => ∃ i : Int, vs = [.int i] ∧ Q (.bl (decide (-1000000000 ≤ i ∧ i ≤ 1000000000))) H
theorem ok_key (T : Tx K mg A) : FnOk P w K mg base CX0 3 A.f_is_key A.d_is_key ["thing"] spKey := by
  refine T.F_is_key.ok sc_is_key (fun vs H Q E h => ?_) (fun cdv B outer s H vs Q E hr h => ?_)
  · obtain ⟨i, rfl, _⟩ := h
    rfl
  · obtain ⟨i, rfl, q⟩ := h
    obtain ⟨t, hg⟩ := cst T.c_GREATEST_KEY
    refine ⟨_, pss_one (ps_ret (pe_call (ok_ii T) hr (by rfl) T.m_is_integer_from T.F_is_integer_from.kp (b_ii T) .nil pass0
      (pa_cons (pv 0) (pa_cons (pe_un un_neg (pe_glob (by rfl) hg (relI _ _))) (pa_cons (pe_glob (by rfl) hg (relI _ _)) pa_nil))))), ?_⟩
    exact ⟨_, rfl, _, rfl, _, _, _, rfl, .inl ⟨i, rfl, q⟩⟩
theorem b_key (T : Tx K mg A) : L2.Binds K A.d_is_key ["thing"] [] := T.F_is_key.binds fun _ _ _ _ _ _ us hl => match us, hl with | [_], _ => rfl
theorem Sq.len {K : PySem.W.Frag} {H : Hp} {a : Addr} {xs : List V} (h : Sq H a xs) : SqL K H a xs ∨ SqT K H a xs := h.elim (fun e => .inl (SqL.of e)) fun e => .inr (SqT.of e)
/-- keys go in, a tuple of them comes out -/
def spRow (K : PySem.W.Frag) : Sp := fun vs H Q _ => ∃ (a : Addr) (ns : List Int), vs = [.ref a] ∧ Sq H a (ns.map V.int) ∧ ns.length ≤ 12 ∧ (∀ n ∈ ns, -1000000000 ≤ n ∧ n ≤ 1000000000) ∧
  ∀ H' p, Same H H' → H' p = some (.tup (ns.map V.int)) → Q (.ref p) H'
theorem ok_row (T : Tx K mg A) : FnOk P w K mg base CX0 4 A.f_row_of A.d_row_of ["row"] (spRow K) := by
  refine T.F_row_of.ok sc_row_of (fun vs H Q E h => ?_) (fun cdv B outer s H vs Q E hr h => ?_)
  · obtain ⟨a, ns, rfl, _⟩ := h
    rfl
  · obtain ⟨a, ns, rfl, ha, hl, hk, q⟩ := h
    obtain ⟨t, hg⟩ := cst T.c_MOST_PLACES
    refine ⟨_, pss_cons (ps_if (PW.pt (pw_or (pt_not (pt_val (pe_callB call_isiT (by rfl) T.g_isinstance (by decide +kernel) (pa_cons (pv 0) (pa_cons (pe_tup (pa_cons (pe_bltn (v := .ty "list") (by rfl) T.g_list (by decide +kernel) rfl) (pa_cons (pe_bltn (v := .ty "tuple") (by rfl) T.g_tuple (by decide +kernel) rfl) pa_nil))) pa_nil)))))
        (pw_or1 (pt_cmpR op_gt (pe_callB call_len_seq (by rfl) T.g_len PySem.boot_len (pa_cons (pv 0) pa_nil)) (pe_glob (by rfl) hg (relI _ _)) (nomark _))))) (pss_one ps_never) pss_nil)
      (C8.pss_cut (ps_for PassesOwn.never rfl (pi_enS (by rfl) T.g_enumerate (pa_cons (pv 0) pa_nil)) (pg_tup rfl (pgs_cons (pg_name (i := 1) sc_row_of.nd rfl (Or.inl rfl)) (pgs_cons (pg_name (i := 2) sc_row_of.nd rfl (Or.inl rfl)) pgs_nil)))
        (pss_one (ps_if (pt_not (pt_val (pe_call (ok_key T) hr (by rfl) T.m_is_key T.F_is_key.kp (b_key T) .nil pass0 (pa_cons (pv 2) pa_nil)))) (pss_one ps_never) pss_nil)))
      (pss_one (ps_ret (pe_callTy call_tuple_of (by rfl) T.g_tuple (by decide +kernel) (pa_cons (pv 0) pa_nil))))), ?_⟩
    refine ⟨_, rfl, by show 2 ≤ sizeLine; decide, fun tp htp => ?_⟩
    have ha1 : Sq (upd H tp (.tup [.ty "list", .ty "tuple"])) a (ns.map V.int) := ha.same (Same.up htp)
    have isi : ∃ c b1, TyX K (upd H tp (.tup [.ty "list", .ty "tuple"])) (.ref a) (.type c) ∧ PySem.W.kitOne K (.type c) (.type "list") = some b1 ∧ (b1 = false → PySem.W.kitOne K (.type c) (.type "tuple") = some true) := by
      rcases ha1 with h | h
      · exact ⟨"list", true, .base (.lst h), kit_ty (by decide +kernel), fun z => by cases z⟩
      · exact ⟨"tuple", false, .base (.tup h), kit_ty (by decide +kernel), fun _ => kit_ty (by decide +kernel)⟩
    obtain ⟨c, b1, ty, k1, k2⟩ := isi
    refine ⟨_, tp, _, .type c, [.type "list", .type "tuple"], true, rfl, upd_same, .cons (.ty _) (.cons (.ty _) .nil), ty, kitAny_cons k1 (fun z => kitAny_cons (k2 z) (fun z => by cases z) (fun _ => rfl)) (fun _ => rfl), true, rfl, ?_⟩
    refine iteF ⟨_, rfl, a, _, rfl, ha1.len, _, _, rfl, rfl, _, rfl, ite2 (fun z => ?_) (fun _ => ?_)⟩
    · exfalso
      rw [List.length_map] at z
      have := of_decide_eq_true z
      omega
    refine ⟨fun σ H' => ∃ z y, σ = [some (.ref a), z, y] ∧ Same H H', ?_, ?_⟩
    · rcases ha with ha | ha
      · refine ⟨_, rfl, a, _, rfl, .inl ⟨SqL.of ((Same.up htp) _ _ ha), for_it (walk_enum (xs := ns.map V.int)) (fun i σ H' => ∃ z y, σ = [some (.ref a), z, y] ∧ Same H H') ⟨none, none, rfl, Same.up htp⟩ (fun i σ H' _ ⟨_, _, _, s⟩ => SqL.of (s _ _ ha)) ?_ ?_⟩⟩
        · rintro i v σ H2 H3 hi ⟨z, y, rfl, s⟩ ⟨T', x, x2, rfl, hT, rfl, e1, e2⟩
          obtain ⟨hi', rfl⟩ := ints_at e2
          cases e1
          refine ⟨_, _, rfl, SqT.of upd_same, rfl, _, _, rfl, _, _, rfl, rfl, ?_⟩
          refine ⟨_, rfl, _, rfl, _, rfl, ?_⟩
          rw [decide_eq_true (hk _ (List.getElem_mem hi'))]
          exact iteF ⟨_, _, rfl, s.trans (Same.up hT)⟩
        · rintro σ H2 ⟨z, y, rfl, s⟩
          exact ⟨_, _, rfl, s⟩
      · refine ⟨_, rfl, a, _, rfl, .inr ⟨SqT.of ((Same.up htp) _ _ ha), for_it (walk_enumT (xs := ns.map V.int)) (fun i σ H' => ∃ z y, σ = [some (.ref a), z, y] ∧ Same H H') ⟨none, none, rfl, Same.up htp⟩ (fun i σ H' _ ⟨_, _, _, s⟩ => SqT.of (s _ _ ha)) ?_ ?_⟩⟩
        · rintro i v σ H2 H3 hi ⟨z, y, rfl, s⟩ ⟨T', x, x2, rfl, hT, rfl, e1, e2⟩
          obtain ⟨hi', rfl⟩ := ints_at e2
          cases e1
          refine ⟨_, _, rfl, SqT.of upd_same, rfl, _, _, rfl, _, _, rfl, rfl, ?_⟩
          refine ⟨_, rfl, _, rfl, _, rfl, ?_⟩
          rw [decide_eq_true (hk _ (List.getElem_mem hi'))]
          exact iteF ⟨_, _, rfl, s.trans (Same.up hT)⟩
        · rintro σ H2 ⟨z, y, rfl, s⟩
          exact ⟨_, _, rfl, s⟩
    · rintro σ H2 ⟨z, y, rfl, s⟩
      rcases ha with ha | ha
      · exact ⟨_, rfl, a, _, rfl, .inl ⟨SqL.of (s _ _ ha), fun p hp => q _ _ (s.trans (Same.up hp)) upd_same⟩⟩
      · exact ⟨_, rfl, a, _, rfl, .inr ⟨SqT.of (s _ _ ha), q _ _ s (s _ _ ha)⟩⟩
end
end Tw

set_option Elab.async false
set_option linter.all false
set_option maxRecDepth 100000
set_option maxHeartbeats 2000000
namespace Tw
open PySem PySem.Spec PyProof.Rows L2
section
variable {P : Program} {w : World} {K : PySem.W.Frag} {mg : Str → Option Value} {base : Heap} {A : Ad}
open LamX (ExtN Tabs TabS)
theorem b_row (T : Tx K mg A) : L2.Binds K A.d_row_of ["row"] [] := T.F_row_of.binds fun _ _ _ _ _ _ us hl => match us, hl with | [_], _ => rfl
def spOf (K : PySem.W.Frag) (C : Addr) : Sp := fun vs H Q _ => ∃ (a w : Nat) (ns : List Int), vs = [.ref C, .ref a, .int w] ∧ (1 ≤ w ∧ w ≤ 4) ∧ Sq H a (ns.map V.int) ∧ ns.length ≤ 12 ∧ (∀ n ∈ ns, -1000000000 ≤ n ∧ n ≤ 1000000000) ∧
  ∀ (H' : Hp) p, Same H H' → H p = none → TreeAt C H' p ns.length w → Q (.ref p) H'
theorem ok_of (T : Tx K mg A) : FnOk P w K mg base CX0 6 A.f_t_of A.d_t_of ["cls", "row", "arms"] (spOf K A.C) := by
  obtain ⟨mv, kb⟩ := kb_init T
  refine T.F_t_of.ok sc_t_of (fun vs H Q E h => ?_) (fun cdv B outer s H vs Q E hr h => ?_)
  · obtain ⟨a, w, ns, rfl, _⟩ := h
    rfl
  · obtain ⟨a, w, ns, rfl, hw, ha, hl, hk, q⟩ := h
    refine ⟨_, PSs.nox (pss_cons (ps_expr (pe_call (ok_ca T) (hr.mono (by decide)) (by rfl) T.m_check_arms T.F_check_arms.kp (b_ca T) .nil pass0 (pa_cons (pv 2) pa_nil)))
      (pss_one (ps_ret (pe_makeLK (i := 0) T.mkC (ok_init T) hr kb pass0 (pa_cons (pe_callB call_len_seq (by rfl) T.g_len PySem.boot_len (pa_cons (pe_call (ok_row T) (hr.mono (by decide)) (by rfl) T.m_row_of T.F_row_of.kp (b_row T) .nil pass0 (pa_cons (pv 1) pa_nil)) pa_nil)) pa_nil)
        (pk_cons (pv 2) pk_nil) rfl (Or.inl rfl))))), ?_⟩
    refine ⟨_, rfl, _, rfl, ⟨by omega, by omega⟩, rfl, _, rfl, a, ns, rfl, ha, hl, hk, fun H1 p s1 hp => ?_⟩
    refine ⟨p, _, rfl, .inr (SqT.of hp), _, rfl, rfl, rfl, fun x dx nx ndx nex => ?_⟩
    refine ⟨x, dx, ns.length, w, by rw [List.length_map]; rfl, hl, hw, upd_same, fun H2 k2 t2 => ⟨rfl, q H2 x (fun b o e => k2 b o ?_ (ne_of_none (s1 _ _ e) nx)) (s1.free nx) t2⟩⟩
    rw [upd_ne (ne_of_none (s1 _ _ e) nx), upd_ne (ne_of_none (s1 _ _ e) ndx)]
    exact s1 _ _ e
theorem RowIn.same {H H' : Hp} {a : Addr} {ns : List Int} (h : RowIn H a ns) (s : Same H H') : RowIn H' a ns := ⟨h.1.same s, h.2⟩
theorem tf_pl (n w t : Nat) : (tf n w t).lookup ("_places" : Str) = some (.ref t) := by
  unfold tf
  rw [lookup_putF, if_pos rfl]
theorem pl_len (n : Nat) : (pl n).length = n := by unfold pl; rw [List.length_map, List.length_range]
theorem ix_sq {H : Hp} {a : Addr} {ns : List Int} {i : Nat} {Q : VK} (h : Sq H a (ns.map V.int)) (hi : i < ns.length) (q : Q (.int (ns.getD i 0)) H) : rIx K (.ref a) (.int i) H Q := by
  have e : (ns.map V.int)[i]? = some (V.int (ns.getD i 0)) := by
    rw [List.getElem?_map, List.getElem?_eq_getElem hi, List.getD_eq_getElem?_getD, List.getElem?_eq_getElem hi]
    rfl
  rcases h with h | h
  · exact .inl ⟨a, _, _, _, rfl, rfl, SqL.of h, atI_nat e, q⟩
  · exact .inr (.inl ⟨a, _, _, _, rfl, rfl, SqT.of h, atI_nat e, q⟩)
theorem filt_pick (l : List Nat) (b : Nat → Bool) : vi (l.filter b) = l.filterMap fun j => if b j = true then some (V.int (j : Nat)) else none := by
  unfold vi
  induction l with
  | nil => rfl
  | cons a l ih =>
    by_cases h : b a = true
    · rw [List.filter_cons_of_pos h, List.map_cons, ih, List.filterMap_cons, if_pos h]
    · rw [List.filter_cons_of_neg h, ih, List.filterMap_cons, if_neg h]
def spFau : Sp := fun vs H Q _ => ∃ (a w : Nat) (ns : List Int), vs = [.ref a, .int w] ∧ (1 ≤ w ∧ w ≤ 4) ∧ RowIn H a ns ∧ ∀ H' q, Same H H' → H q = none → H' q = some (.lst (vi (faultL ns w))) → Q (.ref q) H'
theorem ok_fau (T : Tx K mg A) : FnOk P w K mg base CX0 7 A.f_faults A.d_faults ["row", "arms"] spFau := by
  obtain ⟨mo, ko⟩ := kb_of T
  refine T.F_faults.ok sc_faults (fun vs H Q E h => ?_) (fun cdv B outer s H vs Q E hr h => ?_)
  · obtain ⟨a, w, ns, rfl, _⟩ := h
    rfl
  · obtain ⟨a, w, ns, rfl, hw, hrow, q⟩ := h
    have nd := sc_faults.nd
    refine ⟨_, PSs.nox (pss_cons (ps_set (i := 2) nd rfl (Or.inr rfl) (pe_cmethK (pe_glob (v := .ref A.C) (by rfl) T.mC (relR _)) T.cr T.cof (ok_of T) hr ko pass0 (pa_cons (pv 0) pa_nil) (pk_cons (pv 1) pk_nil)))
      (pss_one (ps_ret (pe_lc (own := [("place", 3)]) (g := gName 3) rfl nd (pi_own T.D_t___iter__ (ok_iter T) (hr.mono (by decide)) (b_iter T) (pv 2)) (blkOk_by (own := [("place", 3)]) (N := ["row", "arms", "tree", "place"]) (sc := defScope s_faults) (by decide +kernel))
        (fun _ _ _ _ _ => pg_name (i := 3) nd rfl (Or.inl rfl))
        (fun _ _ _ _ _ => pts_one (PW.pt (pw_and (pt_cmpR op_gt (pv 3) pe_int (nomark _)) (pw_and1 (pt_cmpR op_lt (pe_ix (r := rIx K) ix_seq (pv 0) (pv 3) (fun _ _ => rfl))
          (pe_ix (r := rIx K) ix_seq (pv 0) (pe_meth (pv 2) T.cT T.M_t_parent (ok_par T) (hr.mono (by decide)) (b_par T) .nil pass0 (pa_cons (pv 3) pa_nil)) (fun _ _ => rfl)) (nomark _))))))
        (fun _ _ _ _ _ => pv 3))))), ?_⟩
    refine ⟨rfl, _, rfl, _, rfl, rfl, rfl, a, w, ns, rfl, hw, hrow.1, hrow.2.1, hrow.2.2, fun H1 p s1 p0 t1 => ?_⟩
    obtain ⟨dx, l, h1, h2⟩ := t1.ob
    have noP : (tf ns.length w l).lookup ("parent" : Str) = none := tf_no _ _ _ (by decide +kernel) (by decide +kernel) (by decide +kernel)
    have hlen := hrow.2.1
    refine ⟨_, rfl, p, dx, _, l, _, rfl, h1, tf_pl _ _ _, SqT.of h2, fun D hD => ?_⟩
    refine lc_it (walk_tup (xs := pl ns.length)) (PickI H1 D (List.range ns.length) fun j => if faultB ns w j = true then some (V.int (j : Nat)) else none) (pick_start hD) (fun k H' _ h => SqT.of (h.s _ _ h2)) ?_ ?_
    · rintro k x H2 H3 hk pk ⟨rfl, ex⟩
      obtain ⟨hk', rfl⟩ := map_at ex
      rw [List.getElem_range]
      have hk2 : k < ns.length := by rw [List.length_range] at hk'; exact hk'
      have hrow3 := (hrow.1.same s1).same pk.s
      refine ⟨rfl, _, rfl, _, _, rfl, rfl, _, rfl, ?_⟩
      by_cases h0 : 0 < k
      · rw [decide_eq_true (show (0 : Int) < (k : Nat) by omega)]
        have ep : parV w k = V.int ((k - 1) / w : Nat) := by unfold parV; rw [if_neg (by omega)]
        have hlt : (k - 1) / w < k := Nat.lt_of_le_of_lt (Nat.div_le_self _ _) (by omega)
        refine iteT ⟨_, rfl, _, rfl, ix_sq hrow3 hk2 ⟨_, rfl, _, rfl, p, dx, _, rfl, pk.s _ _ h1, noP, _, rfl, p, ns.length, w, k, rfl, t1.same pk.s, hk2, ?_⟩⟩
        rw [ep]
        refine ix_sq hrow3 (by omega) ⟨_, _, rfl, rfl, _, rfl, ?_⟩
        have ef : faultB ns w k = decide (ns.getD k 0 < ns.getD ((k - 1) / w) 0) := by unfold faultB; rw [decide_eq_true h0, Bool.true_and]
        by_cases hf : ns.getD k 0 < ns.getD ((k - 1) / w) 0
        · rw [decide_eq_true hf] at ef ⊢
          exact iteT ⟨_, rfl, pick_yes hk' (by rw [List.length_range]; omega) (by rw [List.getElem_range, ef]; rfl) (Same.refl _) pk⟩
        · rw [decide_eq_false hf] at ef ⊢
          exact iteF (pick_no hk' (by rw [List.getElem_range, ef]; rfl) (Same.refl _) pk)
      · rw [decide_eq_false (show ¬ (0 : Int) < (k : Nat) by omega)]
        have ef : faultB ns w k = false := by unfold faultB; rw [decide_eq_false h0, Bool.false_and]
        exact iteF (iteF (pick_no hk' (by rw [List.getElem_range, ef]; rfl) (Same.refl _) pk))
    · intro H2 pk
      have ac := pick_end (by rw [pl_len, List.length_range]) pk
      refine q _ D (s1.trans ac.s) (s1.free hD) ?_
      rw [ac.a]
      unfold faultL
      rw [filt_pick]
theorem kb_fau (T : Tx K mg A) : ∃ mv : List Value, KBn K A.d_faults ["row", "arms"] 1 ["arms"] (fun us ws => us ++ (mv ++ ws)) (fun vs zs => vs ++ zs) := by
  obtain ⟨mv, h⟩ := T.F_faults.kbinds0 (ps := ["row", "arms"]) 1 ["arms"] [] (fun us mv ws => us ++ (mv ++ ws)) (by simp) (by simp) (fun r1 r2 r3 => r1.append (r2.append r3))
    (fun D doc pm an cdv ct us mv ws h1 h2 h3 => by
      match us, mv, ws, h1, h2, h3 with
      | [a], [], [c], _, _, _ => rfl)
  exact ⟨mv, h⟩
def rTupOf (K : PySem.W.Frag) : List V → Hp → VK → Prop := fun xs H Q => ∃ p ys, xs = [V.ref p] ∧ ((SqL K H p ys ∧ ∀ l, H l = none → Q (.ref l) (upd H l (.tup ys))) ∨ SqT K H p ys ∧ Q (.ref p) H)
theorem call_tupK {X : Cx} : CallR X (.type "tuple") (rTupOf X.K) := call_tuple_of
def spHp : Sp := fun vs H Q _ => ∃ (r w : Nat) (ks : List Int), vs = [.ref r, .int w] ∧ (1 ≤ w ∧ w ≤ 4) ∧ RowIn H r ks ∧ faultL ks w = [] ∧ ∀ H' q, Same H H' → H' q = some (.tup (ks.map V.int)) → Q (.ref q) H'
theorem ok_hp (T : Tx K mg A) : FnOk P w K mg base CX0 8 A.f_heap_of A.d_heap_of ["row", "arms"] spHp := by
  obtain ⟨mf, kf⟩ := kb_fau T
  refine T.F_heap_of.ok sc_heap_of (fun vs H Q E h => ?_) (fun cdv B outer s H vs Q E hr h => ?_)
  · obtain ⟨r, w, ks, rfl, _⟩ := h
    rfl
  · obtain ⟨r, w, ks, rfl, hw, hrow, hf, q⟩ := h
    have nd := sc_heap_of.nd
    refine ⟨_, PSs.nox (pss_cons (ps_set (i := 2) nd rfl (Or.inl rfl) (pe_callN (ok_fau T) (hr.mono (by decide)) (by rfl) T.m_faults T.F_faults.kp kf pass0 (pa_cons (pv 0) pa_nil) (pk_cons (pv 1) pk_nil)))
      (pss_cons (ps_if (pt_truth (pv 2) (fun _ => rfl)) (pss_one ps_never) pss_nil)
      (pss_one (ps_ret (pe_callTy (r := rTupOf K) call_tupK (by rfl) T.g_tuple (by decide +kernel) (pa_cons (pv 0) pa_nil)))))), ?_⟩
    refine ⟨_, rfl, _, rfl, rfl, rfl, r, w, ks, rfl, hw, hrow, fun H1 d s1 d0 hd => ?_⟩
    refine ⟨_, rfl, !(vi (faultL ks w)).isEmpty, .inl ⟨_, SqL.of hd, rfl⟩, ?_⟩
    rw [hf]
    refine iteF ?_
    rcases hrow.1.same s1 with h | h
    · exact ⟨_, rfl, r, _, rfl, .inl ⟨SqL.of h, fun t nt => q _ t (s1.trans (Same.up nt)) upd_same⟩⟩
    · exact ⟨_, rfl, r, _, rfl, .inr ⟨SqT.of h, q _ r s1 h⟩⟩
theorem b_hp (T : Tx K mg A) : L2.Binds K A.d_heap_of ["row", "arms"] [] := T.F_heap_of.binds fun _ _ _ _ _ _ us hl => match us, hl with | [_, _], _ => rfl
def wz (l : List Nat) : List Int := l.map fun i => ((i : Nat) : Int)
theorem vi_ints (l : List Nat) : vi l = (l.map fun i => ((i : Nat) : Int)).map V.int := by unfold vi; rw [List.map_map]; rfl
theorem vi_wz (l : List Nat) : vi l = (wz l).map V.int := vi_ints l
theorem ixN_nat {n p : Nat} (h : p < n) : ixN n (p : Int) = some p := by
  unfold ixN
  rw [if_pos (by omega), if_pos (by omega), Int.toNat_natCast]
theorem last_at {xs : List V} {y : V} : atI (xs ++ [y]) (-1) = some y := by
  unfold atI ixN
  rw [if_neg (by omega), if_pos (by simp; omega), show ((-1 : Int) + ((xs ++ [y]).length : Nat)).toNat = xs.length by rw [List.length_append, List.length_singleton]; omega]
  simp
theorem set_int (ks : List Int) (p : Nat) (v : Int) : (ks.map V.int).set p (V.int v) = (ks.set p v).map V.int := (List.map_set ..).symm
theorem up_chain : ∀ w, w < 5 → ∀ p, p < 13 → 1 ≤ w → ∀ i, i < (upL w p).length - 1 → (upL w p).getD i 0 ≠ 0 ∧ ((upL w p).getD i 0 - 1) / w = (upL w p).getD (i + 1) 0 := by decide +kernel
theorem up_ends : ∀ w, w < 5 → ∀ p, p < 13 → 1 ≤ w → (upL w p).getD ((upL w p).length - 1) 0 = 0 ∧ 1 ≤ (upL w p).length ∧ (upL w p).getD 0 0 = p ∧ ∀ i, i < (upL w p).length → (upL w p).getD i 0 ≤ p := by decide +kernel
def zf (t1 t2 lk : Nat) : List (Str × V) := putF "looks" (.int lk) (putF "way" (.ref t2) (putF "row" (.ref t1) []))
/-- a Sift stands at p -/
def SiftAt (C : Addr) (H : Hp) (p : Addr) (ks ws : List Int) (lk : Nat) : Prop := ∃ (dx t1 t2 : Addr), H p = some (.ins C dx (zf t1 t2 lk)) ∧ H t1 = some (.tup (ks.map V.int)) ∧ H t2 = some (.tup (ws.map V.int))
theorem SiftAt.ext {C : Addr} {H H' : Hp} {p : Addr} {ks ws : List Int} {lk : Nat} (h : SiftAt C H p ks ws lk) (e : ∀ b o, H b = some o → (∀ ps, o ≠ .tbl ps) → H' b = some o) : SiftAt C H' p ks ws lk := by
  obtain ⟨dx, t1, t2, a, b, c⟩ := h
  exact ⟨dx, t1, t2, e _ _ a (fun ps z => nomatch z), e _ _ b (fun ps z => nomatch z), e _ _ c (fun ps z => nomatch z)⟩
theorem SiftAt.same {C : Addr} {H H' : Hp} {p : Addr} {ks ws : List Int} {lk : Nat} (h : SiftAt C H p ks ws lk) (s : Same H H') : SiftAt C H' p ks ws lk := h.ext fun b o e _ => s b o e
def spZi (C : Addr) : Sp := fun vs H Q _ => ∃ (p dx a b lk : Nat) (ks ws : List Int), vs = [.ref p, .ref a, .ref b, .int lk] ∧ H p = some (.ins C dx []) ∧ Sq H a (ks.map V.int) ∧ Sq H b (ws.map V.int) ∧ 
  ∀ (H' : Hp), (∀ b o, H b = some o → b ≠ p → H' b = some o) → SiftAt C H' p ks ws lk → Q .non H'
theorem ok_zi (T : Tx K mg A) : FnOk P w K mg base CX0 2 A.f_z___init__ A.d_z___init__ ["self", "row", "way", "looks"] (spZi A.CS) := by
  refine T.F_z___init__.ok sc_z___init__ (fun vs H Q E h => ?_) (fun cdv B outer s H vs Q E hr h => ?_)
  · obtain ⟨p, dx, a, b, lk, ks, ws, rfl, _⟩ := h
    rfl
  · obtain ⟨p, dx, a, b, lk, ks, ws, rfl, hp, ha, hb, q⟩ := h
    refine ⟨_, C8.pss_cut (ps_fld (pv 0) (pe_callTy call_tuple_of (by rfl) T.g_tuple (by decide +kernel) (pa_cons (pv 1) pa_nil)) rfl)
      (C8.pss_cut (ps_fld (pv 0) (pe_callTy call_tuple_of (by rfl) T.g_tuple (by decide +kernel) (pa_cons (pv 2) pa_nil)) rfl)
      (pss_one (ps_fld (pv 0) (pv 3) rfl))), ?_⟩
    have npa : p ≠ a := fun z => by rcases ha with h | h <;> rw [← z, hp] at h <;> cases h
    have npb : p ≠ b := fun z => by rcases hb with h | h <;> rw [← z, hp] at h <;> cases h
    refine ⟨fun σ H' => ∃ t1 : Addr, σ = L2.start ["self", "row", "way", "looks"] [.ref p, .ref a, .ref b, .int lk] ∧ (∀ c o, H c = some o → c ≠ p → H' c = some o) ∧ H' p = some (.ins A.CS dx (putF "row" (.ref t1) [])) ∧ H' t1 = some (.tup (ks.map V.int)) ∧ t1 ≠ p, ?_, ?_⟩
    · have go : ∀ (H1 : Hp) (t1 : Addr), Same H H1 → H1 t1 = some (.tup (ks.map V.int)) → ∃ t2 : Addr, (L2.start ["self", "row", "way", "looks"] [.ref p, .ref a, .ref b, .int lk]) = L2.start ["self", "row", "way", "looks"] [.ref p, .ref a, .ref b, .int lk] ∧ (∀ c o, H c = some o → c ≠ p → upd H1 p (.ins A.CS dx (putF "row" (.ref t1) [])) c = some o) ∧ upd H1 p (.ins A.CS dx (putF "row" (.ref t1) [])) p = some (.ins A.CS dx (putF "row" (.ref t2) [])) ∧ upd H1 p (.ins A.CS dx (putF "row" (.ref t1) [])) t2 = some (.tup (ks.map V.int)) ∧ t2 ≠ p := fun H1 t1 s1 e1 => by
        have n1 : t1 ≠ p := fun z => by rw [z, s1 _ _ hp] at e1; cases e1
        exact ⟨t1, rfl, fun c o e n => by rw [upd_ne n]; exact s1 _ _ e, upd_same, by rw [upd_ne n1]; exact e1, n1⟩
      rcases ha with h | h
      · exact ⟨_, rfl, a, _, rfl, .inl ⟨SqL.of h, fun t1 ht1 => ⟨_, rfl, p, A.CS, dx, _, rfl, (Same.up ht1) _ _ hp, T.cTS, T.nRow, (by show 0 < 1000; decide), go _ t1 (Same.up ht1) upd_same⟩⟩⟩
      · exact ⟨_, rfl, a, _, rfl, .inr ⟨SqT.of h, _, rfl, p, A.CS, dx, _, rfl, hp, T.cTS, T.nRow, (by show 0 < 1000; decide), go H a (Same.refl _) h⟩⟩
    rintro σ H1 ⟨t1, rfl, k1, hp1, e1, n1⟩
    have hb1 : Sq H1 b (ws.map V.int) := hb.elim (fun h => .inl (k1 _ _ h npb.symm)) fun h => .inr (k1 _ _ h npb.symm)
    refine ⟨fun σ H' => ∃ t2 : Addr, σ = L2.start ["self", "row", "way", "looks"] [.ref p, .ref a, .ref b, .int lk] ∧ (∀ c o, H1 c = some o → c ≠ p → H' c = some o) ∧ H' p = some (.ins A.CS dx (putF "way" (.ref t2) (putF "row" (.ref t1) []))) ∧ H' t2 = some (.tup (ws.map V.int)) ∧ t2 ≠ p, ?_, ?_⟩
    · have go : ∀ (H2 : Hp) (t2 : Addr), Same H1 H2 → H2 t2 = some (.tup (ws.map V.int)) → ∃ t3 : Addr, (L2.start ["self", "row", "way", "looks"] [.ref p, .ref a, .ref b, .int lk]) = L2.start ["self", "row", "way", "looks"] [.ref p, .ref a, .ref b, .int lk] ∧ (∀ c o, H1 c = some o → c ≠ p → upd H2 p (.ins A.CS dx (putF "way" (.ref t2) (putF "row" (.ref t1) []))) c = some o) ∧ upd H2 p (.ins A.CS dx (putF "way" (.ref t2) (putF "row" (.ref t1) []))) p = some (.ins A.CS dx (putF "way" (.ref t3) (putF "row" (.ref t1) []))) ∧ upd H2 p (.ins A.CS dx (putF "way" (.ref t2) (putF "row" (.ref t1) []))) t3 = some (.tup (ws.map V.int)) ∧ t3 ≠ p := fun H2 t2 s2 e2 => by
        have n2 : t2 ≠ p := fun z => by rw [z, s2 _ _ hp1] at e2; cases e2
        exact ⟨t2, rfl, fun c o e n => by rw [upd_ne n]; exact s2 _ _ e, upd_same, by rw [upd_ne n2]; exact e2, n2⟩
      rcases hb1 with h | h
      · exact ⟨_, rfl, b, _, rfl, .inl ⟨SqL.of h, fun t2 ht2 => ⟨_, rfl, p, A.CS, dx, _, rfl, (Same.up ht2) _ _ hp1, T.cTS, T.nWay, (by show 1 < 1000; decide), go _ t2 (Same.up ht2) upd_same⟩⟩⟩
      · exact ⟨_, rfl, b, _, rfl, .inr ⟨SqT.of h, _, rfl, p, A.CS, dx, _, rfl, hp1, T.cTS, T.nWay, (by show 1 < 1000; decide), go H1 b (Same.refl _) h⟩⟩
    rintro σ H2 ⟨t2, rfl, k2, hp2, e2, n2⟩
    refine ⟨_, rfl, _, rfl, p, A.CS, dx, _, rfl, hp2, T.cTS, T.nLooks, (by simp only [putF, m1, if_false]; show 2 < 1000; decide), ?_⟩
    refine q _ (fun c o e hc => ?_) ⟨dx, t1, t2, upd_same, ?_, ?_⟩
    · rw [upd_ne hc]
      exact k2 _ _ (k1 _ _ e hc) hc
    · rw [upd_ne n1]
      exact k2 _ _ e1 n1
    · rw [upd_ne n2]
      exact e2
theorem b_zi (T : Tx K mg A) : L2.Binds K A.d_z___init__ ["self", "row", "way", "looks"] [] := T.F_z___init__.binds fun _ _ _ _ _ _ us hl => match us, hl with | [_, _, _, _], _ => rfl
/-- two lists of one's own -/
structure Two (H : Hp) (D W : Addr) (xs ys : List V) (H' : Hp) : Prop where
  s : Same H H'
  d : H' D = some (.lst xs)
  w : H' W = some (.lst ys)
  nD : H D = Option.none
  nW : H W = Option.none
  ne : D ≠ W
theorem Two.setD {H H' : Hp} {D W : Addr} {xs ys zs : List V} (h : Two H D W xs ys H') : Two H D W zs ys (upd H' D (.lst zs)) :=
  ⟨fun b o e => by rw [upd_ne (ne_of_none e h.nD)]; exact h.s _ _ e, upd_same, by rw [upd_ne h.ne.symm]; exact h.w, h.nD, h.nW, h.ne⟩
theorem Two.setW {H H' : Hp} {D W : Addr} {xs ys zs : List V} (h : Two H D W xs ys H') : Two H D W xs zs (upd H' W (.lst zs)) :=
  ⟨fun b o e => by rw [upd_ne (ne_of_none e h.nW)]; exact h.s _ _ e, by rw [upd_ne h.ne]; exact h.d, upd_same, h.nD, h.nW, h.ne⟩
theorem Two.same {H H' H2 : Hp} {D W : Addr} {xs ys : List V} (h : Two H D W xs ys H') (s : Same H' H2) : Two H D W xs ys H2 := ⟨h.s.trans s, s _ _ h.d, s _ _ h.w, h.nD, h.nW, h.ne⟩
theorem cut_last (xs : List V) (h : xs ≠ []) : cutV xs none (some (-1)) = xs.take (xs.length - 1) ∧ ¬ (HT.sIx xs.length 0 none = 0 ∧ HT.sIx xs.length xs.length (some (-1)) = xs.length) := by
  have hl := List.length_pos_iff.mpr h
  have e : HT.sIx xs.length xs.length (some (-1)) = xs.length - 1 := by
    unfold HT.sIx
    simp
    try omega
  have e0 : HT.sIx xs.length 0 none = 0 := rfl
  refine ⟨?_, fun z => ?_⟩
  · unfold cutV
    rw [e, e0]
    simp
  · rw [e] at z
    omega
theorem rev_at {U : List Nat} {i : Nat} (h : i + 1 < U.length) : ((U.reverse).take (U.length - 1))[(U.length - 1) - 1 - i]? = some (U.getD (i + 1) 0) := by
  rw [List.getElem?_take_of_lt (by omega), List.getElem?_reverse (by omega), List.getD_eq_getElem?_getD, show U.length - 1 - (U.length - 1 - 1 - i) = i + 1 by omega, List.getElem?_eq_getElem h]
  rfl
theorem goUp_root {w f : Nat} {ks : List Int} {way : List Nat} {lk : Nat} : goUp w f ks 0 way lk = (ks, way, lk) := by
  cases f with
  | zero => rfl
  | succ f => rw [goUp, if_pos rfl]
def resSift (C : Addr) (H : Hp) (q : Addr) (r : List Int × List Nat × Nat) : Prop := SiftAt C H q r.1 (wz r.2.1) r.2.2
def spUp (C : Addr) : Sp := fun vs H Q _ => ∃ (r p w : Nat) (ks : List Int), vs = [.ref r, .int p, .int w] ∧ (1 ≤ w ∧ w ≤ 4) ∧ RowIn H r ks ∧ p < ks.length ∧
  ∀ (H' : Hp) (q : Addr), Same H H' → resSift C H' q (goUp w 20 ks p [p] 0) → Q (.ref q) H'
theorem ok_up (T : Tx K mg A) : FnOk P w K mg base CX0 7 A.f_sift_up A.d_sift_up ["row", "place", "arms"] (spUp A.CS) := by
  obtain ⟨mo, ko⟩ := kb_of T
  refine T.F_sift_up.ok sc_sift_up (fun vs H Q E h => ?_) (fun cdv B outer s H vs Q E hr h => ?_)
  · obtain ⟨r, p, w, ks, rfl, _⟩ := h
    rfl
  · obtain ⟨r, p, w, ks, rfl, hw, hrow, hp, q⟩ := h
    have nd := sc_sift_up.nd
    refine ⟨_, PSs.nox (pss_cons (ps_set (i := 3) nd rfl (Or.inl rfl) (pe_cmethK (pe_glob (v := .ref A.C) (by rfl) T.mC (relR _)) T.cr T.cof (ok_of T) hr ko pass0 (pa_cons (pv 0) pa_nil) (pk_cons (pv 2) pk_nil)))
      (pss_cons (ps_set (i := 4) nd rfl (Or.inl rfl) (pe_slice sl_tup (pe_meth (pv 3) T.cT T.M_t_way_to (ok_way T) (hr.mono (by decide)) (b_way T) .nil pass0 (pa_cons (pv 1) pa_nil)) po_none (po_some (pe_un un_neg pe_int))))
      (pss_cons (ps_set (i := 5) nd rfl (Or.inl rfl) (pe_callTy call_list_of (by rfl) T.g_list (by decide +kernel) (pa_cons (pv 0) pa_nil)))
      (pss_cons (ps_set (i := 6) nd rfl (Or.inl rfl) (pe_lst (pa_cons (pv 1) pa_nil)))
      (pss_cons (ps_set (i := 7) nd rfl (Or.inl rfl) pe_int)
      (C8.pss_cut (ps_for PassesOwn.never rfl (pi_reversed (by rfl) T.g_reversed (pa_cons (pe_callTy call_list_of (by rfl) T.g_list (by decide +kernel) (pa_cons (pv 4) pa_nil)) pa_nil)) (pg_name (i := 8) nd rfl (Or.inl rfl)) (pss_cons (ps_set (i := 9) nd rfl (Or.inl rfl) (pe_ix ix_list (pv 6) (pe_un un_neg pe_int) (fun _ _ => rfl)))
      (pss_cons (ps_aug (i := 7) nd rfl (Or.inl rfl) pe_int ip_add)
      (pss_cons (ps_if (pt_cmpR op_ge (pe_ix ix_list (pv 5) (pv 9) (fun _ _ => rfl)) (pe_ix ix_list (pv 5) (pv 8) (fun _ _ => rfl)) (nomark _)) (pss_one ps_break) pss_nil)
      (pss_cons (ps_asg (pe_tup (pa_cons (pe_ix ix_list (pv 5) (pv 8) (fun _ _ => rfl)) (pa_cons (pe_ix ix_list (pv 5) (pv 9) (fun _ _ => rfl)) pa_nil))) (pg_tup rfl (pgs_cons (pg_sub (pv 5) (pv 9) set_list) (pgs_cons (pg_sub (pv 5) (pv 8) set_list) pgs_nil))))
      (pss_one (ps_expr (pe_bm PySem.F.plainAttrs_list PySem.F.slot_list_append PySem.F.type_list_append mt_append (pv 6) (pa_cons (pv 8) pa_nil)))))))))
      (pss_one (ps_ret (pe_make T.mkCS (ok_zi T) (hr.mono (by decide)) (by rfl) T.mCS (b_zi T) .nil pass0 (pa_cons (pv 5) (pa_cons (pv 6) (pa_cons (pv 7) pa_nil)))))))))))), ?_⟩
    refine ⟨rfl, _, rfl, _, rfl, rfl, rfl, r, w, ks, rfl, hw, hrow.1, hrow.2.1, hrow.2.2, fun H1 tr s1 p0 t1 => ?_⟩
    obtain ⟨dx, l, h1, h2⟩ := t1.ob
    have noW : (tf ks.length w l).lookup ("way_to" : Str) = none := tf_no _ _ _ (by decide +kernel) (by decide +kernel) (by decide +kernel)
    have hk12 := hrow.2.1
    obtain ⟨u0, u1, u2, u3⟩ := up_ends w (by omega) p (by omega) hw.1
    have uc := up_chain w (by omega) p (by omega) hw.1
    have ul := up_len w (by omega) p (by omega) hw.1
    refine ⟨_, rfl, tr, dx, _, rfl, h1, noW, _, rfl, tr, ks.length, w, p, rfl, t1, hp, fun H2 t0 s2 n2 e2 => ?_⟩
    have ew : wayL w p = (upL w p).reverse := rfl
    have wl : (vi (wayL w p)).length = (upL w p).length := by rw [vi_len, ew, List.length_reverse]
    obtain ⟨c1, c2⟩ := cut_last (vi (wayL w p)) (List.length_pos_iff.mp (by rw [wl]; omega))
    refine ⟨_, rfl, _, rfl, t0, _, rfl, SqT.of e2, c2, fun ab nab => ?_⟩
    rw [c1, wl]
    have s3 : Same H2 (upd H2 ab (.tup ((vi (wayL w p)).take ((upL w p).length - 1)))) := Same.up nab
    have e3 : upd H2 ab (.tup ((vi (wayL w p)).take ((upL w p).length - 1))) ab = some (.tup ((vi (wayL w p)).take ((upL w p).length - 1))) := upd_same
    generalize upd H2 ab (.tup ((vi (wayL w p)).take ((upL w p).length - 1))) = H3 at s3 e3
    have s13 : Same H H3 := s1.trans (s2.trans s3)
    refine ⟨_, rfl, r, _, rfl, (hrow.1.same s13).len, fun D nD => ?_⟩
    refine ⟨_, rfl, by show 1 ≤ sizeLine; decide, fun W nW => ?_⟩
    have nDW : D ≠ W := ne_of_none (upd_same (H := H3) (a := D)) nW
    have two0 : Two H3 D W (ks.map V.int) (vi [p]) (upd (upd H3 D (.lst (ks.map V.int))) W (.lst [V.int (p : Nat)])) :=
      ⟨(Same.up nD).trans (Same.up nW), by rw [upd_ne nDW]; exact upd_same, upd_same, nD, (Same.up nD).free nW, nDW⟩
    generalize upd (upd H3 D (.lst (ks.map V.int))) W (.lst [V.int (p : Nat)]) = H4 at two0
    -- the loop
    refine ⟨fun σ' H' => ∃ (x8 x9 : Option V), σ' = [some (.ref r), some (.int p), some (.int w), some (.ref tr), some (.ref ab), some (.ref D), some (.ref W), some (.int ((goUp w 20 ks p [p] 0).2.2 : Nat)), x8, x9] ∧ Two H3 D W ((goUp w 20 ks p [p] 0).1.map V.int) (vi (goUp w 20 ks p [p] 0).2.1) H', ?_, ?_⟩
    · refine ⟨_, rfl, ab, _, rfl, .inr (SqT.of (two0.s _ _ e3)), fun c nc => ?_⟩
      have two1 := two0.same (Same.up (o := .lst ((vi (wayL w p)).take ((upL w p).length - 1))) nc)
      have ec : upd H4 c (.lst ((vi (wayL w p)).take ((upL w p).length - 1))) c = some (.lst ((vi (wayL w p)).take ((upL w p).length - 1))) := upd_same
      have nDc : D ≠ c := ne_of_none two0.d nc
      have nWc : W ≠ c := ne_of_none two0.w nc
      generalize upd H4 c (.lst ((vi (wayL w p)).take ((upL w p).length - 1))) = H5 at two1 ec
      have zl : ((vi (wayL w p)).take ((upL w p).length - 1)).length = (upL w p).length - 1 := by rw [List.length_take, wl]; omega
      refine ⟨c, _, rfl, SqL.of ec, RT.for_Itv (fun i σ' H' => ∃ (ks' : List Int) (way : List Nat) (lk : Nat) (x8 x9 : Option V), σ' = [some (.ref r), some (.int p), some (.int w), some (.ref tr), some (.ref ab), some (.ref D), some (.ref W), some (.int lk), x8, x9] ∧ Two H3 D W (ks'.map V.int) (vi (way ++ [(upL w p).getD i 0])) H' ∧
        H' c = some (.lst ((vi (wayL w p)).take ((upL w p).length - 1))) ∧ i ≤ (upL w p).length - 1 ∧ ks'.length = ks.length ∧ way.length = i ∧ goUp w 20 ks p [p] 0 = goUp w (20 - i) ks' ((upL w p).getD i 0) (way ++ [(upL w p).getD i 0]) lk) ?_ ?_ ?_ ?_⟩
      · exact ⟨ks, [], 0, none, none, rfl, by rw [u2]; exact two1, ec, by omega, rfl, rfl, by rw [u2]; rfl⟩
      · rintro i σ' H' ⟨_, _, _, _, _, _, _, h, _⟩
        exact SqL.of h
      · rintro i x σ' H' hi hx ⟨ks', way, lk, x8, x9, rfl, two, hc, hi2, hkl, hwl, eg⟩
        rw [zl] at hi hx
        obtain ⟨n0, np⟩ := uc i hi
        have hx2 : x = V.int (((upL w p).getD (i + 1) 0 : Nat) : Int) := by
          have e := rev_at (U := upL w p) (i := i) (by omega)
          rw [← ew] at e
          unfold vi at hx
          rw [← List.map_take, List.getElem?_map, e] at hx
          exact (Option.some.inj hx).symm
        subst hx2
        have b1 := u3 i (by omega)
        have b2 := u3 (i + 1) (by omega)
        have hc1 : (upL w p).getD i 0 < ks'.length := by omega
        have hc2 : (upL w p).getD (i + 1) 0 < ks'.length := by omega
        have hlast : atI (vi (way ++ [(upL w p).getD i 0])) (-1) = some (V.int (((upL w p).getD i 0 : Nat) : Int)) := by
          rw [vi_app]
          exact last_at
        have hlen14 : (way ++ [(upL w p).getD i 0]).length ≤ 900 := by rw [List.length_append, List.length_singleton]; omega
        have ef : 20 - i = (20 - (i + 1)) + 1 := by omega
        generalize (upL w p).getD i 0 = cur at *
        generalize (upL w p).getD (i + 1) 0 = nx at *
        rw [ef] at eg
        refine ⟨_, rfl, _, rfl, W, _, _, _, rfl, rfl, SqL.of two.w, hlast, ?_⟩
        refine ⟨_, rfl, _, _, rfl, rfl, ?_⟩
        refine ⟨_, rfl, _, rfl, D, _, _, _, rfl, rfl, SqL.of two.d, key_at hc1, _, rfl, _, rfl, D, _, _, _, rfl, rfl, SqL.of two.d, key_at hc2, _, _, rfl, rfl, _, rfl, ?_⟩
        by_cases hlt : keyAt ks' cur < keyAt ks' nx
        · rw [decide_eq_false (show ¬ keyAt ks' cur ≥ keyAt ks' nx by omega)]
          refine iteF ?_
          rw [goUp_go n0 (by rw [np]; exact hlt), np] at eg
          refine ⟨_, rfl, _, rfl, D, _, _, _, rfl, rfl, SqL.of two.d, key_at hc2, _, rfl, _, rfl, D, _, _, _, rfl, rfl, SqL.of two.d, key_at hc1, by show 2 ≤ sizeLine; decide, fun t ht => ?_⟩
          have ntc : c ≠ t := ne_of_none hc ht
          have two2 := two.same (Same.up (o := .tup [V.int (keyAt ks' nx), V.int (keyAt ks' cur)]) ht)
          have hc3 := (Same.up (o := .tup [V.int (keyAt ks' nx), V.int (keyAt ks' cur)]) ht) _ _ hc
          have et : upd H' t (.tup [V.int (keyAt ks' nx), V.int (keyAt ks' cur)]) t = some (.tup [V.int (keyAt ks' nx), V.int (keyAt ks' cur)]) := upd_same
          generalize upd H' t (.tup [V.int (keyAt ks' nx), V.int (keyAt ks' cur)]) = G at two2 hc3 et
          refine ⟨t, _, rfl, SqT.of et, rfl, _, _, rfl, _, rfl, _, rfl, D, _, _, cur, rfl, rfl, two2.d, ixN_nat (by rw [List.length_map]; exact hc1), ?_⟩
          rw [set_int]
          have two3 : Two H3 D W ((ks'.set cur (keyAt ks' nx)).map V.int) (vi (way ++ [cur])) (upd G D (.lst ((ks'.set cur (keyAt ks' nx)).map V.int))) := two2.setD
          have hc4 : upd G D (.lst ((ks'.set cur (keyAt ks' nx)).map V.int)) c = some (.lst ((vi (wayL w p)).take ((upL w p).length - 1))) := by rw [upd_ne nDc.symm]; exact hc3
          generalize upd G D (.lst ((ks'.set cur (keyAt ks' nx)).map V.int)) = G2 at two3 hc4
          refine ⟨_, _, rfl, _, rfl, _, rfl, D, _, _, nx, rfl, rfl, two3.d, ixN_nat (by rw [List.length_map, List.length_set]; exact hc2), ?_⟩
          rw [set_int, show (ks'.set cur (keyAt ks' nx)).set nx (keyAt ks' cur) = swp ks' cur nx from rfl]
          have two4 : Two H3 D W ((swp ks' cur nx).map V.int) (vi (way ++ [cur])) (upd G2 D (.lst ((swp ks' cur nx).map V.int))) := two3.setD
          have hc5 : upd G2 D (.lst ((swp ks' cur nx).map V.int)) c = some (.lst ((vi (wayL w p)).take ((upL w p).length - 1))) := by rw [upd_ne nDc.symm]; exact hc4
          generalize upd G2 D (.lst ((swp ks' cur nx).map V.int)) = G3 at two4 hc5
          refine ⟨rfl, _, rfl, .inl ⟨rfl, _, SqL.of two4.w⟩, _, rfl, W, _, _, rfl, rfl, two4.w, small1000 (by rw [vi_len]; omega), ?_⟩
          have em : vi (way ++ [cur]) ++ [V.int (nx : Nat)] = vi ((way ++ [cur]) ++ [nx]) := by rw [vi_app (way ++ [cur])]; rfl
          rw [em]
          refine ⟨swp ks' cur nx, way ++ [cur], lk + 1, _, _, rfl, two4.setW, by rw [upd_ne nWc.symm]; exact hc5, by omega, by rw [swp_len]; exact hkl, by rw [List.length_append, hwl]; rfl, eg⟩
        · rw [decide_eq_true (show keyAt ks' cur ≥ keyAt ks' nx by omega)]
          refine iteT ?_
          rw [goUp_stay n0 (by rw [np]; exact hlt)] at eg
          rw [eg]
          exact ⟨_, _, rfl, two⟩
      · rintro σ' H' ⟨ks', way, lk, x8, x9, rfl, two, hc, hi2, hkl, hwl, eg⟩
        rw [zl, u0, goUp_root] at eg
        rw [zl, u0] at two
        rw [eg]
        exact ⟨x8, x9, rfl, two⟩
    · rintro σ' H' ⟨x8, x9, rfl, two⟩
      refine ⟨_, rfl, _, rfl, _, rfl, fun x dx2 nx ndx nex => ?_⟩
      have hD := (Same.up (o := .own x) ndx) _ _ two.d
      have hW := (Same.up (o := .own x) ndx) _ _ two.w
      have nx2 : upd H' dx2 (.own x) x = none := by rw [upd_ne nex.symm]; exact nx
      refine ⟨x, dx2, D, W, _, (goUp w 20 ks p [p] 0).1, wz (goUp w 20 ks p [p] 0).2.1, rfl, upd_same, .inl ((Same.up nx2) _ _ hD), .inl (by rw [← vi_wz]; exact (Same.up nx2) _ _ hW), fun H6 k6 st => ⟨rfl, q H6 x ?_ st⟩⟩
      exact s13.trans (two.s.trans (new_same nx ndx k6))
theorem kb_up (T : Tx K mg A) : ∃ mv : List Value, KBn K A.d_sift_up ["row", "place", "arms"] 2 ["arms"] (fun us ws => us ++ (mv ++ ws)) (fun vs zs => vs ++ zs) := by
  obtain ⟨mv, h⟩ := T.F_sift_up.kbinds0 (ps := ["row", "place", "arms"]) 2 ["arms"] [] (fun us mv ws => us ++ (mv ++ ws)) (by simp) (by simp) (fun r1 r2 r3 => r1.append (r2.append r3))
    (fun D doc pm an cdv ct us mv ws h1 h2 h3 => by
      match us, mv, ws, h1, h2, h3 with
      | [a, b], [], [c], _, _, _ => rfl)
  exact ⟨mv, h⟩
theorem map_one (l : List Int) (x : Int) : l.map V.int ++ [V.int x] = (l ++ [x]).map V.int := by rw [List.map_append]; rfl
def spCk : Sp := fun vs H Q _ => ∃ i : Int, vs = [.int i] ∧ (-1000000000 ≤ i ∧ i ≤ 1000000000) ∧ Q .non H
theorem ok_ck (T : Tx K mg A) : FnOk P w K mg base CX0 4 A.f_check_key A.d_check_key ["key"] spCk := by
  refine T.F_check_key.ok sc_check_key (fun vs H Q E h => ?_) (fun cdv B outer s H vs Q E hr h => ?_)
  · obtain ⟨i, rfl, _⟩ := h
    rfl
  · obtain ⟨i, rfl, hi, q⟩ := h
    refine ⟨_, (pss_one (ps_if (pt_not (pt_val (pe_call (ok_key T) (hr.mono (by decide)) (by rfl) T.m_is_key T.F_is_key.kp (b_key T) .nil pass0 (pa_cons (pv 0) pa_nil)))) (pss_one ps_never) pss_nil)), ?_⟩
    refine ⟨_, rfl, i, rfl, _, rfl, ?_⟩
    rw [decide_eq_true hi]
    exact iteF q
theorem b_ck (T : Tx K mg A) : L2.Binds K A.d_check_key ["key"] [] := T.F_check_key.binds fun _ _ _ _ _ _ us hl => match us, hl with | [_], _ => rfl
def spPush (A : Ad) : Sp := fun vs H Q _ => ∃ (r w : Nat) (k : Int) (ks : List Int), vs = [.ref r, .int k, .int w] ∧ (1 ≤ w ∧ w ≤ 4) ∧ RowIn H r ks ∧ faultL ks w = [] ∧ (-1000000000 ≤ k ∧ k ≤ 1000000000) ∧ ks.length < 12 ∧
  ∀ (H' : Hp) (q : Addr), Same H H' → resSift A.CS H' q (goUp w 20 (ks ++ [k]) ks.length [ks.length] 0) → Q (.ref q) H'
theorem ok_push (T : Tx K mg A) : FnOk P w K mg base CX0 9 A.f_push A.d_push ["row", "key", "arms"] (spPush A) := by
  obtain ⟨mu, ku⟩ := kb_up T
  refine T.F_push.ok sc_push (fun vs H Q E h => ?_) (fun cdv B outer s H vs Q E hr h => ?_)
  · obtain ⟨r, w, k, ks, rfl, _⟩ := h
    rfl
  · obtain ⟨r, w, k, ks, rfl, hw, hrow, hf, hk, hlt, q⟩ := h
    have nd := sc_push.nd
    obtain ⟨t12, hg⟩ := cst T.c_MOST_PLACES
    refine ⟨_, PSs.nox (pss_cons (ps_set (i := 3) nd rfl (Or.inl rfl) (pe_call (ok_hp T) (hr.mono (by decide)) (by rfl) T.m_heap_of T.F_heap_of.kp (b_hp T) .nil pass0 (pa_cons (pv 0) (pa_cons (pv 2) pa_nil))))
      (pss_cons (ps_expr (pe_call (ok_ck T) (hr.mono (by decide)) (by rfl) T.m_check_key T.F_check_key.kp (b_ck T) .nil pass0 (pa_cons (pv 1) pa_nil)))
      (pss_cons (ps_if (pt_cmpR op_eq (pe_callB call_len_seq (by rfl) T.g_len PySem.boot_len (pa_cons (pv 3) pa_nil)) (pe_glob (by rfl) hg (relI _ _)) (nomark _)) (pss_one ps_never) pss_nil)
      (pss_one (ps_ret (pe_callN (ok_up T) (hr.mono (by decide)) (by rfl) T.m_sift_up T.F_sift_up.kp ku pass0 (pa_cons (pe_op op_catA (pv 3) (pe_tup (pa_cons (pv 1) pa_nil))) (pa_cons (pe_callB call_len_seq (by rfl) T.g_len PySem.boot_len (pa_cons (pv 3) pa_nil)) pa_nil)) (pk_cons (pv 2) pk_nil))))))), ?_⟩
    refine ⟨_, rfl, _, rfl, r, w, ks, rfl, hw, hrow, hf, fun H1 t s1 e1 => ?_⟩
    refine ⟨_, rfl, k, rfl, hk, ?_⟩
    refine ⟨_, rfl, t, _, rfl, .inr (SqT.of e1), rfl, _, rfl, ?_⟩
    rw [decide_eq_false (show ¬ V.int ((ks.map V.int).length : Nat) = V.int 12 by rw [List.length_map]; intro z; injection z with z; omega)]
    refine iteF ?_
    refine ⟨_, rfl, _, rfl, by show 1 ≤ sizeLine; decide, fun u nu => ?_⟩
    have su := Same.up (o := .tup [V.int k]) nu
    refine ⟨t, u, _, _, rfl, rfl, SqT.of (su _ _ e1), SqT.of upd_same, Nat.le_of_lt (small1000 (by rw [List.length_map, List.length_singleton]; omega)), fun hn => ?_, fun _ z => (nomatch z), fun hn _ c nc => ?_⟩
    · have e0 : ks = [] := List.map_eq_nil_iff.mp hn
      obtain ⟨c, rfl⟩ : ∃ c, c = u := ⟨u, rfl⟩
      have s2 := su
      have ec : upd H1 c (.tup [V.int k]) c = some (.tup ((ks ++ [k]).map V.int)) := by rw [e0]; exact upd_same
      clear su
      generalize upd H1 c (.tup [V.int k]) = H2 at s2 ec
      refine ⟨_, rfl, t, _, rfl, .inr (SqT.of (s2 _ _ e1)), _, rfl, rfl, rfl, c, ks.length, w, ks ++ [k], by rw [List.length_map]; rfl, hw, ⟨.inr ec, by rw [List.length_append, List.length_singleton]; omega, ?_⟩, by rw [List.length_append, List.length_singleton]; omega, fun H3 u s3 ru => q H3 u (s1.trans (s2.trans s3)) ru⟩
      intro z hz
      rcases List.mem_append.mp hz with y | y
      · exact hrow.2.2 z y
      · rw [List.mem_singleton.mp y]
        exact hk
    · rw [map_one]
      have s2 := su.trans (Same.up (o := .tup ((ks ++ [k]).map V.int)) nc)
      have ec : upd (upd H1 u (.tup [V.int k])) c (.tup ((ks ++ [k]).map V.int)) c = some (.tup ((ks ++ [k]).map V.int)) := upd_same
      generalize upd (upd H1 u (.tup [V.int k])) c (.tup ((ks ++ [k]).map V.int)) = H2 at s2 ec
      refine ⟨_, rfl, t, _, rfl, .inr (SqT.of (s2 _ _ e1)), _, rfl, rfl, rfl, c, ks.length, w, ks ++ [k], by rw [List.length_map]; rfl, hw, ⟨.inr ec, by rw [List.length_append, List.length_singleton]; omega, ?_⟩, by rw [List.length_append, List.length_singleton]; omega, fun H3 u s3 ru => q H3 u (s1.trans (s2.trans s3)) ru⟩
      intro z hz
      rcases List.mem_append.mp hz with y | y
      · exact hrow.2.2 z y
      · rw [List.mem_singleton.mp y]
        exact hk
end
end Tw

set_option Elab.async false
set_option linter.all false
set_option maxRecDepth 100000
set_option maxHeartbeats 2000000
namespace Tw
open PySem PySem.Spec PyProof.Rows L2
section
variable {P : Program} {w : World} {K : PySem.W.Frag} {mg : Str → Option Value} {base : Heap} {A : Ad}
open LamX (ExtN Tabs TabS)
theorem plAt {n i : Nat} {x : V} (h : (pl n)[i]? = some x) : i < n ∧ x = V.int (i : Nat) := by
  unfold pl at h
  rw [List.getElem?_map] at h
  by_cases hi : i < n
  · rw [List.getElem?_range hi] at h
    exact ⟨hi, (Option.some.inj h).symm⟩
  · rw [List.getElem?_eq_none (by rw [List.length_range]; omega)] at h
    cases h
theorem par_lt {w c : Nat} (h : 1 ≤ c) : (c - 1) / w < c := Nat.lt_of_le_of_lt (Nat.div_le_self _ _) (by omega)
theorem up_good {n w : Nat} : ∀ (f : Nat) (ks : List Int) (cur : Nat) (way : List Nat) (lk : Nat), ks.length = n → cur < n → cur ≤ f →
    (∀ c, 1 ≤ c → c < n → c ≠ cur → keyAt ks ((c - 1) / w) ≤ keyAt ks c) → (∀ c, 1 ≤ c → c < n → (c - 1) / w = cur → cur ≠ 0 → keyAt ks ((cur - 1) / w) ≤ keyAt ks c) → HeapL n w (goUp w f ks cur way lk).1
  | 0, ks, cur, way, lk, hl, hc, hf, g, up => fun c h1 h2 => g c h1 h2 (by omega)
  | f + 1, ks, cur, way, lk, hl, hc, hf, g, up => by
    by_cases h0 : cur = 0
    · subst h0
      rw [goUp_root]
      exact fun c h1 h2 => g c h1 h2 (by omega)
    · have hp := par_lt (w := w) (c := cur) (by omega)
      by_cases hlt : keyAt ks cur < keyAt ks ((cur - 1) / w)
      · rw [goUp_go h0 hlt]
        generalize ep : (cur - 1) / w = p at *
        have ka : cur < ks.length := by omega
        have kb : p < ks.length := by omega
        refine up_good f _ p _ _ (by rw [swp_len]; exact hl) (by omega) (by omega) (fun c h1 h2 hcp => ?_) (fun c h1 h2 hcp hp0 => ?_)
        · rw [keyAt_swp ka kb, keyAt_swp ka kb, if_neg hcp]
          by_cases ec : c = cur
          · subst ec
            rw [ep, if_pos rfl, if_pos rfl]
            omega
          · rw [if_neg ec]
            by_cases e1 : (c - 1) / w = p
            · rw [if_pos e1]
              have := g c h1 h2 ec
              rw [e1] at this
              omega
            · rw [if_neg e1]
              by_cases e2 : (c - 1) / w = cur
              · rw [if_pos e2]
                exact up c h1 h2 e2 h0
              · rw [if_neg e2]
                exact g c h1 h2 ec
        · have hpp := par_lt (w := w) (c := p) (by omega)
          have hc1 := par_lt (w := w) h1
          have a := g p (by omega) (by omega) (by omega)
          rw [keyAt_swp ka kb, keyAt_swp ka kb, if_neg (by omega), if_neg (by omega), if_neg (by omega)]
          by_cases ec : c = cur
          · rw [if_pos ec]
            exact a
          · rw [if_neg ec]
            have b := g c h1 h2 ec
            rw [hcp] at b
            omega
      · rw [goUp_stay h0 hlt]
        intro c h1 h2
        by_cases ec : c = cur
        · subst ec
          exact Int.not_lt.mp hlt
        · exact g c h1 h2 ec
theorem up_perm {w : Nat} : ∀ (f : Nat) (ks : List Int) (cur : Nat) (way : List Nat) (lk : Nat), cur < ks.length → ((goUp w f ks cur way lk).1).Perm ks
  | 0, ks, cur, way, lk, hc => List.Perm.refl _
  | f + 1, ks, cur, way, lk, hc => by
    by_cases h0 : cur = 0
    · subst h0
      rw [goUp_root]
    · have hp := par_lt (w := w) (c := cur) (by omega)
      by_cases hlt : keyAt ks cur < keyAt ks ((cur - 1) / w)
      · rw [goUp_go h0 hlt]
        exact (up_perm f _ _ _ _ (by rw [swp_len]; omega)).trans (swp_perm hc (by omega))
      · rw [goUp_stay h0 hlt]
theorem keyAt_app {ks : List Int} {k : Int} {p : Nat} (h : p < ks.length) : keyAt (ks ++ [k]) p = keyAt ks p := by
  unfold keyAt
  rw [List.getD_eq_getElem?_getD, List.getD_eq_getElem?_getD, List.getElem?_append_left h]
theorem push_ok {w : Nat} {ks : List Int} {k : Int} (hl : ks.length < 12) (h : HeapL ks.length w ks) : HeapL (ks.length + 1) w (goUp w 20 (ks ++ [k]) ks.length [ks.length] 0).1 ∧ ((goUp w 20 (ks ++ [k]) ks.length [ks.length] 0).1).Perm (ks ++ [k]) := by
  have hl2 : (ks ++ [k]).length = ks.length + 1 := by rw [List.length_append]; rfl
  refine ⟨up_good 20 _ _ _ _ hl2 (by omega) (by omega) (fun c h1 h2 hc => ?_) (fun c h1 h2 hc _ => ?_), up_perm 20 _ _ _ _ (by omega)⟩
  · have := par_lt (w := w) h1
    rw [keyAt_app (by omega), keyAt_app (by omega)]
    exact h c h1 (by omega)
  · have := par_lt (w := w) h1
    omega
theorem zf_row (t1 t2 lk : Nat) : (zf t1 t2 lk).lookup ("row" : Str) = some (.ref t1) := by
  unfold zf
  rw [lookup_putF, if_neg m2, lookup_putF, if_neg m1, lookup_putF, if_pos rfl]
theorem zf_way (t1 t2 lk : Nat) : (zf t1 t2 lk).lookup ("way" : Str) = some (.ref t2) := by
  unfold zf
  rw [lookup_putF, if_neg m3, lookup_putF, if_pos rfl]
end
end Tw

set_option Elab.async false
set_option linter.all false
set_option maxRecDepth 100000
set_option maxHeartbeats 2000000
namespace Tw
open PySem PySem.Spec PyProof.Rows L2
section
variable {P : Program} {w : World} {K : PySem.W.Frag} {mg : Str → Option Value} {base : Heap} {A : Ad}
open LamX (ExtN Tabs TabS)
/-! pushing all: the mathematics -/
def paL (w : Nat) (keys : List Int) : Nat → List Int × Int × Int
  | 0 => ([], 0, 0)
  | i + 1 => ((pushR (paL w keys i).1 w (keyAt keys i)).1, (paL w keys i).2.1 + (((pushR (paL w keys i).1 w (keyAt keys i)).2.1.length : Nat) - 1), (paL w keys i).2.2 + ((pushR (paL w keys i).1 w (keyAt keys i)).2.2 : Nat))
theorem pa_ok {w : Nat} {keys : List Int} (h12 : keys.length ≤ 12) : ∀ i, i ≤ keys.length → ((paL w keys i).1.Perm (keys.take i)) ∧ HeapL i w (paL w keys i).1
  | 0, _ => ⟨by show List.Perm [] _; rw [List.take_zero], fun c h1 h2 => by omega⟩
  | i + 1, hi => by
    obtain ⟨h1, h2⟩ := pa_ok h12 i (by omega)
    have hl : (paL w keys i).1.length = i := by rw [h1.length_eq, List.length_take]; omega
    obtain ⟨p1, p2⟩ := push_ok (w := w) (ks := (paL w keys i).1) (k := keyAt keys i) (by omega) (by rw [hl]; exact h2)
    rw [hl] at p1
    have e : (pushR (paL w keys i).1 w (keyAt keys i)).1 = (goUp w 20 ((paL w keys i).1 ++ [keyAt keys i]) (paL w keys i).1.length [(paL w keys i).1.length] 0).1 := rfl
    refine ⟨?_, ?_⟩
    · show (pushR (paL w keys i).1 w (keyAt keys i)).1.Perm _
      rw [e]
      refine p2.trans ?_
      rw [← List.take_append_getElem (show i < keys.length by omega), el_key]
      exact h1.append_right _
    · show HeapL (i + 1) w (pushR (paL w keys i).1 w (keyAt keys i)).1
      rw [e, hl]
      exact p1
theorem pa_len {w : Nat} {keys : List Int} (h12 : keys.length ≤ 12) {i : Nat} (hi : i ≤ keys.length) : (paL w keys i).1.length = i := by
  rw [(pa_ok (w := w) h12 i hi).1.length_eq, List.length_take]
  omega
theorem pa_in {w : Nat} {keys : List Int} (h12 : keys.length ≤ 12) {i : Nat} (hi : i ≤ keys.length) : ∀ z ∈ (paL w keys i).1, z ∈ keys := fun z hz => List.mem_of_mem_take ((pa_ok (w := w) h12 i hi).1.mem_iff.mp hz)
theorem up_ways {w : Nat} (hw : 1 ≤ w ∧ w ≤ 4) : ∀ (f : Nat) (x : List Int) (p : Nat) (way : List Nat) (lk : Nat), p ≤ 12 → way ≠ [] → (goUp w f x p way lk).2.1.length + 1 ≤ way.length + (wayL w p).length
  | 0, x, p, way, lk, hp, hn => by
    show way.length + 1 ≤ _
    have := List.length_pos_of_mem (self_sub w (by omega) p (by omega) hw.1)
    omega
  | f + 1, x, p, way, lk, hp, hn => by
    have hpos := List.length_pos_of_mem (self_sub w (by omega) p (by omega) hw.1)
    unfold goUp
    by_cases h0 : p = 0
    · rw [if_pos h0]
      show way.length + 1 ≤ _
      omega
    · rw [if_neg h0]
      by_cases h : keyAt x p < keyAt x ((p - 1) / w)
      · rw [if_pos h]
        have hd := Nat.div_le_self (p - 1) w
        have ih := up_ways hw f (swp x p ((p - 1) / w)) ((p - 1) / w) (way ++ [(p - 1) / w]) (lk + 1) (by omega) (by simp)
        rw [way_rec w p hw hp (by omega), List.length_append, List.length_singleton]
        rw [List.length_append, List.length_singleton] at ih
        omega
      · rw [if_neg h]
        show way.length + 1 ≤ _
        omega
theorem up_waye {w n : Nat} (hw : 1 ≤ w ∧ w ≤ 4) : ∀ (f : Nat) (x : List Int) (p : Nat) (way : List Nat) (lk : Nat), x.length = n → p < n → p ≤ 12 → p < f → (∀ q, q < n → q ≠ p → keyAt x p < keyAt x q) → (goUp w f x p way lk).2.1.length + 1 = way.length + (wayL w p).length
  | 0, x, p, way, lk, hx, hpn, hp, hf, hl => by omega
  | f + 1, x, p, way, lk, hx, hpn, hp, hf, hl => by
    unfold goUp
    by_cases h0 : p = 0
    · rw [if_pos h0]
      subst h0
      have e : ∀ w, w < 5 → 1 ≤ w → (wayL w 0).length = 1 := by decide +kernel
      rw [e w (by omega) hw.1]
    · rw [if_neg h0]
      have hd := Nat.div_le_self (p - 1) w
      have h := hl ((p - 1) / w) (by omega) (by omega)
      rw [if_pos h]
      have sw : ∀ c, keyAt (swp x p ((p - 1) / w)) c = if c = (p - 1) / w then keyAt x p else if c = p then keyAt x ((p - 1) / w) else keyAt x c := fun c => keyAt_swp (by omega) (by omega)
      have ih := up_waye hw f (swp x p ((p - 1) / w)) ((p - 1) / w) (way ++ [(p - 1) / w]) (lk + 1) (by rw [swp_len, hx]) (by omega) (by omega) (by omega) (fun q hq hne => by
        rw [sw, sw, if_pos rfl, if_neg hne]
        by_cases e : q = p
        · rw [if_pos e]
          exact h
        · rw [if_neg e]
          exact hl q hq e)
      rw [way_rec w p hw hp (by omega), List.length_append, List.length_singleton]
      rw [List.length_append, List.length_singleton] at ih
      omega
/-- the most changes -/
def mostL (w : Nat) (n : Nat) : Int := ((List.range n).map fun p => ((wayL w p).length : Int) - 1).sum
theorem most_succ (w n : Nat) : mostL w (n + 1) = mostL w n + (((wayL w n).length : Int) - 1) := by
  unfold mostL
  rw [List.range_succ, List.map_append, List.sum_append]
  simp
theorem pa_most {w : Nat} (hw : 1 ≤ w ∧ w ≤ 4) {keys : List Int} (h12 : keys.length ≤ 12) : ∀ i, i ≤ keys.length → (paL w keys i).2.1 ≤ mostL w i
  | 0, _ => Int.le_refl _
  | i + 1, hi => by
    have ih := pa_most hw h12 i (by omega)
    have hl := pa_len (w := w) h12 (show i ≤ keys.length by omega)
    have h := up_ways hw 20 ((paL w keys i).1 ++ [keyAt keys i]) (paL w keys i).1.length [(paL w keys i).1.length] 0 (by omega) (by simp)
    have e : (paL w keys (i + 1)).2.1 = (paL w keys i).2.1 + (((goUp w 20 ((paL w keys i).1 ++ [keyAt keys i]) (paL w keys i).1.length [(paL w keys i).1.length] 0).2.1.length : Nat) - 1) := rfl
    rw [e, most_succ]
    rw [hl] at h ⊢
    simp only [List.length_singleton] at h
    omega
theorem pa_desc {w : Nat} (hw : 1 ≤ w ∧ w ≤ 4) {keys : List Int} (h12 : keys.length ≤ 12) (hd : keys.Pairwise (· > ·)) : ∀ i, i ≤ keys.length → (paL w keys i).2.1 = mostL w i
  | 0, _ => rfl
  | i + 1, hi => by
    have ih := pa_desc hw h12 hd i (by omega)
    have hl := pa_len (w := w) h12 (show i ≤ keys.length by omega)
    have hp := (pa_ok (w := w) h12 i (by omega)).1
    have h := up_waye (n := i + 1) hw 20 ((paL w keys i).1 ++ [keyAt keys i]) (paL w keys i).1.length [(paL w keys i).1.length] 0 (by rw [List.length_append, List.length_singleton, hl]) (by omega) (by omega) (by omega) (fun q hq hne => by
      rw [hl] at hne ⊢
      have e1 : keyAt ((paL w keys i).1 ++ [keyAt keys i]) i = keyAt keys i := by
        show List.getD _ i 0 = _
        rw [List.getD_eq_getElem?_getD, List.getElem?_append_right (by omega), hl, Nat.sub_self]
        rfl
      have e2 : keyAt ((paL w keys i).1 ++ [keyAt keys i]) q = keyAt (paL w keys i).1 q := by
        show List.getD _ q 0 = List.getD _ q 0
        rw [List.getD_eq_getElem?_getD, List.getElem?_append_left (by omega), List.getD_eq_getElem?_getD]
      rw [e1, e2]
      have hm := hp.mem_iff.mp (keyAt_mem (show q < (paL w keys i).1.length by omega))
      obtain ⟨j, hj, ej⟩ := List.mem_iff_getElem.mp hm
      rw [List.length_take] at hj
      rw [List.getElem_take] at ej
      rw [← ej, ← el_key (show i < keys.length by omega)]
      exact List.pairwise_iff_getElem.mp hd j i (by omega) (by omega) (by omega))
    have e : (paL w keys (i + 1)).2.1 = (paL w keys i).2.1 + (((goUp w 20 ((paL w keys i).1 ++ [keyAt keys i]) (paL w keys i).1.length [(paL w keys i).1.length] 0).2.1.length : Nat) - 1) := rfl
    rw [e, most_succ, ih]
    rw [hl] at h ⊢
    simp only [List.length_singleton] at h
    omega
/-! the program's own: push_all, most_pushed, last_places -/
theorem zf_looks (t1 t2 lk : Nat) : (zf t1 t2 lk).lookup ("looks" : Str) = some (.int lk) := by
  unfold zf
  rw [lookup_putF, if_pos rfl]
def spPa (A : Ad) : Sp := fun vs H Q _ => ∃ (k w : Nat) (keys : List Int), vs = [.ref k, .int w] ∧ (1 ≤ w ∧ w ≤ 4) ∧ RowIn H k keys ∧ ∀ H' q, Same H H' → AtP A.CP H' q (paL w keys keys.length).1 (paL w keys keys.length).2.1 (paL w keys keys.length).2.2 → Q (.ref q) H'
theorem ok_pa (T : Tx K mg A) : FnOk P w K mg base CX0 10 A.f_push_all A.d_push_all ["keys", "arms"] (spPa A) := by
  obtain ⟨mo, ko⟩ := kb_of T
  obtain ⟨mp, kp⟩ := kb_push T
  refine T.F_push_all.ok sc_push_all (fun vs H Q E h => ?_) (fun cdv B outer s H vs Q E hr h => ?_)
  · obtain ⟨k, w, keys, rfl, _⟩ := h
    rfl
  · obtain ⟨k, w, keys, rfl, hw, hk, q⟩ := h
    have nd := sc_push_all.nd
    have h12 := hk.2.1
    have hkb := hk.2.2
    refine ⟨_, PSs.nox (pss_cons (ps_set (i := 2) nd rfl (Or.inl rfl) (pe_cmethK (pe_glob (v := .ref A.C) (by rfl) T.mC (relR _)) T.cr T.cof (ok_of T) (hr.mono (by decide)) ko pass0 (pa_cons (pv 0) pa_nil) (pk_cons (pv 1) pk_nil)))
      (pss_cons (ps_set (i := 3) nd rfl (Or.inl rfl) (pe_tup pa_nil))
      (pss_cons (ps_set (i := 4) nd rfl (Or.inl rfl) pe_int)
      (pss_cons (ps_set (i := 5) nd rfl (Or.inl rfl) pe_int)
      (C8.pss_cut (ps_for PassesOwn.never rfl (pi_own T.D_t___iter__ (ok_iter T) (hr.mono (by decide)) (b_iter T) (pv 2)) (pg_name (i := 6) nd rfl (Or.inl rfl)) (C8.pss_cut (ps_set (i := 7) nd rfl (Or.inl rfl) (pe_callN (ok_push T) (hr.mono (by decide)) (by rfl) T.m_push T.F_push.kp kp pass0 (pa_cons (pv 3) (pa_cons (pe_ix (r := rIx K) ix_seq (pv 0) (pv 6) (fun _ _ => rfl)) pa_nil)) (pk_cons (pv 1) pk_nil)))
      (pss_cons (ps_set (i := 3) nd rfl (Or.inl rfl) (pe_fld (pv 7) rfl))
      (pss_cons (ps_aug (i := 4) nd rfl (Or.inl rfl) (pe_op op_sub (pe_callB call_len_seq (by rfl) T.g_len PySem.boot_len (pa_cons (pe_fld (pv 7) rfl) pa_nil)) pe_int) ip_add)
      (pss_one (ps_aug (i := 5) nd rfl (Or.inl rfl) (pe_fld (pv 7) rfl) ip_add))))))
      (pss_one (ps_ret (pe_make T.mkCP (ok_iP T) (hr.mono (by decide)) (by rfl) T.mCP (b_iP T) .nil pass0 (pa_cons (pv 3) (pa_cons (pv 4) (pa_cons (pv 5) pa_nil))))))))))), ?_⟩
    refine ⟨rfl, _, rfl, _, rfl, rfl, rfl, k, w, keys, rfl, hw, hk.1, h12, hkb, fun H1 tr s1 p0 t1 => ?_⟩
    refine ⟨by show 0 ≤ sizeLine; decide, fun e ne => ?_⟩
    have se := Same.up (o := .tup []) ne
    have t2 := t1.same se
    have s2 := s1.trans se
    have ee := upd_same (H := H1) (a := e) (o := .tup [])
    generalize upd H1 e (.tup []) = H2 at t2 s2 ee
    obtain ⟨dx, l, g1, g2⟩ := id t2.ob
    refine ⟨fun σ' H' => ∃ (h : Addr) (x6 x7 : Option V), σ' = [some (.ref k), some (.int w), some (.ref tr), some (.ref h), some (.int (paL w keys keys.length).2.1), some (.int (paL w keys keys.length).2.2), x6, x7] ∧ Same H2 H' ∧ H' h = some (.tup ((paL w keys keys.length).1.map V.int)), ?_, ?_⟩
    · refine ⟨_, rfl, tr, dx, _, l, _, rfl, g1, tf_pl _ _ _, SqT.of g2, ?_⟩
      refine for_it (walk_tup (xs := pl keys.length)) (fun i σ' H' => ∃ (h : Addr) (x6 x7 : Option V), σ' = [some (.ref k), some (.int w), some (.ref tr), some (.ref h), some (.int (paL w keys i).2.1), some (.int (paL w keys i).2.2), x6, x7] ∧ Same H2 H' ∧ H' h = some (.tup ((paL w keys i).1.map V.int)))
        ⟨e, none, none, rfl, Same.refl _, ee⟩ (fun i σ' H' _ ⟨_, _, _, _, s, _⟩ => SqT.of (s _ _ g2)) ?_ ?_
      · rintro i x σ' H3o H3 hi ⟨h, x6, x7, rfl, s3, e3⟩ ⟨rfl, hx⟩
        obtain ⟨hi2, rfl⟩ := plAt hx
        have hl := pa_len (w := w) h12 (Nat.le_of_lt hi2)
        obtain ⟨hpp, hph⟩ := pa_ok (w := w) h12 i (Nat.le_of_lt hi2)
        have e1 : (paL w keys (i + 1)).1 = (pushR (paL w keys i).1 w (keyAt keys i)).1 := rfl
        have e2 : (paL w keys (i + 1)).2.1 = (paL w keys i).2.1 + (((pushR (paL w keys i).1 w (keyAt keys i)).2.1.length : Nat) - 1) := rfl
        have e3' : (paL w keys (i + 1)).2.2 = (paL w keys i).2.2 + ((pushR (paL w keys i).1 w (keyAt keys i)).2.2 : Nat) := rfl
        rw [e1, e2, e3']
        refine ⟨fun σ' H' => ∃ q7 : Addr, σ' = [some (.ref k), some (.int w), some (.ref tr), some (.ref h), some (.int (paL w keys i).2.1), some (.int (paL w keys i).2.2), some (.int i), some (.ref q7)] ∧ Same H2 H' ∧ resSift A.CS H' q7 (pushR (paL w keys i).1 w (keyAt keys i)), ?_, ?_⟩
        · have hkk := hk.1.same (s2.trans s3)
          have hrow : RowIn H3 h (paL w keys i).1 := ⟨.inr e3, by omega, fun z hz => hkb z (pa_in (w := w) h12 (Nat.le_of_lt hi2) z hz)⟩
          have hflt : faultL (paL w keys i).1 w = [] := heap_fault hl hph
          have hkey := hkb (keyAt keys i) (keyAt_mem hi2)
          refine ⟨_, rfl, _, rfl, _, rfl, ?_⟩
          rcases hkk with hk1 | hk1
          · exact .inl ⟨k, _, _, _, rfl, rfl, SqL.of hk1, key_at hi2, _, rfl, rfl, rfl, h, w, _, _, rfl, hw, hrow, hflt, hkey, by omega, fun H4 q7 s4 r4 => ⟨q7, rfl, s3.trans s4, r4⟩⟩
          · exact .inr (.inl ⟨k, _, _, _, rfl, rfl, SqT.of hk1, key_at hi2, _, rfl, rfl, rfl, h, w, _, _, rfl, hw, hrow, hflt, hkey, by omega, fun H4 q7 s4 r4 => ⟨q7, rfl, s3.trans s4, r4⟩⟩)
        rintro σ' H4 ⟨q7, rfl, s4, dz, u1, u2, f0, f1, f2⟩
        refine ⟨_, rfl, q7, A.CS, dz, _, _, rfl, f0, T.cTS, T.nRow, zf_row _ _ _, ?_⟩
        refine ⟨_, rfl, _, rfl, q7, A.CS, dz, _, _, rfl, f0, T.cTS, T.nWay, zf_way _ _ _, u2, _, rfl, .inr (SqT.of f2), _, _, rfl, rfl, _, _, rfl, rfl, ?_⟩
        refine ⟨_, rfl, _, rfl, q7, A.CS, dz, _, _, rfl, f0, T.cTS, T.nLooks, zf_looks _ _ _, _, _, rfl, rfl, ?_⟩
        refine ⟨u1, some (.int i), some (.ref q7), ?_, s4, f1⟩
        show [some (V.ref k), some (V.int w), some (V.ref tr), some (V.ref u1), some (V.int ((paL w keys i).2.1 + (((((wz (pushR (paL w keys i).1 w (keyAt keys i)).2.1).map V.int).length : Nat) : Int) - 1))), some (V.int ((paL w keys i).2.2 + ((pushR (paL w keys i).1 w (keyAt keys i)).2.2 : Nat))), some (V.int i), some (V.ref q7)] = _
        rw [show ((wz (pushR (paL w keys i).1 w (keyAt keys i)).2.1).map V.int).length = (pushR (paL w keys i).1 w (keyAt keys i)).2.1.length by rw [List.length_map]; unfold wz; rw [List.length_map]]
      · rintro σ' H3 ⟨h, x6, x7, rfl, s3, e3⟩
        rw [pl_len] at e3
        refine ⟨h, x6, x7, by rw [pl_len], s3, e3⟩
    rintro σ' H3 ⟨h, x6, x7, rfl, s3, e3⟩
    refine ⟨_, rfl, _, rfl, _, rfl, fun x dx nx ndx nex => ?_⟩
    have s6 := new_up (C := A.CP) nx ndx nex
    refine ⟨x, dx, h, _, _, _, rfl, upd_same, .inr (s6 _ _ e3), fun H6 k6 at6 => ⟨rfl, ?_⟩⟩
    exact q _ x (s2.trans (s3.trans (new_same nx ndx k6))) at6
theorem kpa (T : Tx K mg A) : ∃ mv : List Value, KBn K A.d_push_all ["keys", "arms"] 1 ["arms"] (fun us ws => us ++ (mv ++ ws)) (fun vs zs => vs ++ zs) := by
  obtain ⟨mv, h⟩ := T.F_push_all.kbinds0 (ps := ["keys", "arms"]) 1 ["arms"] [] (fun us mv ws => us ++ (mv ++ ws)) (by simp) (by simp) (fun r1 r2 r3 => r1.append (r2.append r3))
    (fun D doc pm an cdv ct us mv ws h1 h2 h3 => by
      match us, mv, ws, h1, h2, h3 with
      | [a], [], [e], _, _, _ => rfl)
  exact ⟨mv, h⟩
def spMp : Sp := fun vs H Q _ => ∃ (n w : Nat), vs = [.int n, .int w] ∧ n ≤ 12 ∧ (1 ≤ w ∧ w ≤ 4) ∧ ∀ H', Same H H' → Q (.int (mostL w n)) H'
theorem ok_mp (T : Tx K mg A) : FnOk P w K mg base CX0 8 A.f_most_pushed A.d_most_pushed ["many", "arms"] spMp := by
  obtain ⟨mi, ki⟩ := kb_init T
  refine T.F_most_pushed.ok sc_most_pushed (fun vs H Q E h => ?_) (fun cdv B outer s H vs Q E hr h => ?_)
  · obtain ⟨n, w, rfl, _⟩ := h
    rfl
  · obtain ⟨n, w, rfl, hn, hw, q⟩ := h
    have nd := sc_most_pushed.nd
    refine ⟨_, (pss_cons (ps_set (i := 2) nd rfl (Or.inr rfl) (pe_makeK T.mkC (ok_init T) (hr.mono (by decide)) (by rfl) T.mC ki pass0 (pa_cons (pv 0) pa_nil) (pk_cons (pv 1) pk_nil)))
      (pss_one (ps_ret (pe_callB (cr_sum rfl) (by rfl) T.g_sum (by decide +kernel) (pa_cons (pe_lc (own := [("place", 3)]) (g := gName 3) (tt := tYes) rfl nd (pi_own T.D_t___iter__ (ok_iter T) (hr.mono (by decide)) (b_iter T) (pv 2)) (blkOk_by (own := [("place", 3)]) (N := ["many", "arms", "tree", "place"]) (sc := (defScope s_most_pushed)) (by decide +kernel)) (fun _ _ _ _ _ => pg_name (i := 3) nd rfl (Or.inl rfl)) (fun _ _ _ _ _ => pts_nil) (fun _ _ _ _ _ => (pe_meth (pv 2) T.cT T.M_t_depth (ok_dep T) (hr.mono (by decide)) (b_dep T) .nil pass0 (pa_cons (pv 3) pa_nil)))) pa_nil))))), ?_⟩
    refine ⟨_, rfl, _, rfl, rfl, rfl, fun x dx nx ndx nex => ⟨x, dx, n, w, rfl, hn, hw, upd_same, fun H1 k1 t1 => ?_⟩⟩
    have s1 := new_same nx ndx k1
    obtain ⟨d1, l, g1, g2⟩ := id t1.ob
    refine ⟨rfl, _, rfl, x, d1, _, l, _, rfl, g1, tf_pl _ _ _, SqT.of g2, fun D nD => ?_⟩
    refine lc_it (walk_tup (xs := pl n)) (fun i H' => Acc H1 D (((List.range i).map fun p => ((wayL w p).length : Int) - 1).map V.int) H') (Acc.start nD) (fun i H' _ ac => SqT.of (ac.s _ _ g2)) ?_ ?_
    · rintro i y H2o H2 hi ac ⟨rfl, hy⟩
      obtain ⟨hi2, rfl⟩ := plAt hy
      have noD : (tf n w l).lookup ("depth" : Str) = none := tf_no _ _ _ (by decide +kernel) (by decide +kernel) (by decide +kernel)
      refine ⟨rfl, iteT (B := Acc H1 D (((List.range (i + 1)).map fun p => ((wayL w p).length : Int) - 1).map V.int) H2) ?_⟩
      refine ⟨_, rfl, x, d1, _, rfl, ac.s _ _ g1, noD, _, rfl, x, n, w, i, rfl, t1.same ac.s, hi2, fun H3 s3 => ?_⟩
      have ac2 := ac.same s3
      refine ⟨_, ac2.a, small1000 (by rw [List.length_map, List.length_map, List.length_range]; omega), ?_⟩
      rw [List.range_succ, List.map_append, List.map_append]
      exact ac2.push
    · intro H2 ac
      rw [pl_len] at ac
      exact ⟨D, _, rfl, SqL.of ac.a, q H2 (s1.trans ac.s)⟩
theorem kmp (T : Tx K mg A) : ∃ mv : List Value, KBn K A.d_most_pushed ["many", "arms"] 1 ["arms"] (fun us ws => us ++ (mv ++ ws)) (fun vs zs => vs ++ zs) := by
  obtain ⟨mv, h⟩ := T.F_most_pushed.kbinds0 (ps := ["many", "arms"]) 1 ["arms"] [] (fun us mv ws => us ++ (mv ++ ws)) (by simp) (by simp) (fun r1 r2 r3 => r1.append (r2.append r3))
    (fun D doc pm an cdv ct us mv ws h1 h2 h3 => by
      match us, mv, ws, h1, h2, h3 with
      | [a], [], [e], _, _, _ => rfl)
  exact ⟨mv, h⟩

end
end Tw

set_option Elab.async false
set_option linter.all false
set_option maxRecDepth 100000
set_option maxHeartbeats 2000000
namespace Tw
open PySem PySem.Spec PyProof.Rows L2
section
variable {P : Program} {w : World} {K : PySem.W.Frag} {mg : Str → Option Value} {base : Heap} {A : Ad}
open LamX (ExtN Tabs TabS)
/-- what a heap and a place of its last way must be -/
structure PuOk (H : Hp) (r w : Nat) (ks : List Int) (place : Nat) : Prop where
  hw : 1 ≤ w ∧ w ≤ 4
  row : RowIn H r ks
  fl : faultL ks w = []
  nd : ks.Nodup
  h1 : 1 ≤ ks.length
  pl : place ∈ wayL w (ks.length - 1)
theorem b_cf (T : Tx K mg A) : L2.Binds K A.d_check_filled ["heap"] [] := T.F_check_filled.binds fun _ _ _ _ _ _ us hl => match us, hl with | [_], _ => rfl
theorem b_dh (T : Tx K mg A) : L2.Binds K A.d_different_heap_of ["row", "arms"] [] := T.F_different_heap_of.binds fun _ _ _ _ _ _ us hl => match us, hl with | [_, _], _ => rfl
theorem b_lw (T : Tx K mg A) : L2.Binds K A.d_last_way ["heap", "arms"] [] := T.F_last_way.binds fun _ _ _ _ _ _ us hl => match us, hl with | [_, _], _ => rfl
theorem kup2 (T : Tx K mg A) : ∃ mv : List Value, KBn K A.d_undo_push ["row", "place", "arms"] 2 ["arms"] (fun us ws => us ++ (mv ++ ws)) (fun vs zs => vs ++ zs) := by
  obtain ⟨mv, h⟩ := T.F_undo_push.kbinds0 (ps := ["row", "place", "arms"]) 2 ["arms"] [] (fun us mv ws => us ++ (mv ++ ws)) (by simp) (by simp) (fun r1 r2 r3 => r1.append (r2.append r3))
    (fun D doc pm an cdv ct us mv ws h1 h2 h3 => by
      match us, mv, ws, h1, h2, h3 with
      | [a, b], [], [e], _, _, _ => rfl)
  exact ⟨mv, h⟩
def spCf : Sp := fun vs H Q _ => ∃ (t : Nat) (xs : List V), vs = [.ref t] ∧ H t = some (.tup xs) ∧ xs ≠ [] ∧ Q .non H
theorem ok_cf (T : Tx K mg A) : FnOk P w K mg base CX0 2 A.f_check_filled A.d_check_filled ["heap"] spCf := by
  refine T.F_check_filled.ok sc_check_filled (fun vs H Q E h => ?_) (fun cdv B outer s H vs Q E hr h => ?_)
  · obtain ⟨t, xs, rfl, _⟩ := h
    rfl
  · obtain ⟨t, xs, rfl, ht, hn, q⟩ := h
    refine ⟨_, (pss_one (ps_if (pt_not (pt_truth (pv 0) (fun _ => rfl))) (pss_one ps_never) pss_nil)), ?_⟩
    refine ⟨_, rfl, !xs.isEmpty, .inr (.inl ⟨_, SqT.of ht, rfl⟩), ?_⟩
    cases xs with
    | nil => exact absurd rfl hn
    | cons a b => exact iteF q
theorem sq_cut {H : Hp} {r : Addr} {ks : List Int} {lo hi : Option Int} {zs : List Int} {Q : VK} (K : PySem.W.Frag) (h : Sq H r (ks.map V.int)) (c : cutV (ks.map V.int) lo hi = zs.map V.int ∧ ¬ (HT.sIx (ks.map V.int).length 0 lo = 0 ∧ HT.sIx (ks.map V.int).length (ks.map V.int).length hi = (ks.map V.int).length))
    (q : ∀ p G, Same H G → Sq G p (zs.map V.int) → Q (.ref p) G) : rSlL K (.ref r) lo hi H Q ∨ rSlT K (.ref r) lo hi H Q := by
  rcases h with h | h
  · exact .inl ⟨r, _, rfl, SqL.of h, fun p np => by rw [c.1]; exact q p _ (Same.up np) (.inl upd_same)⟩
  · exact .inr ⟨r, _, rfl, SqT.of h, c.2, fun p np => by rw [c.1]; exact q p _ (Same.up np) (.inr upd_same)⟩
theorem inV_int (i : Int) : ∀ ns : List Int, inV (V.int i) (ns.map V.int) = decide (i ∈ ns)
  | [] => by simp [inV]
  | a :: ns => by
    have ih := inV_int i ns
    unfold inV at ih ⊢
    show (eqV (V.int a) (V.int i) || (ns.map V.int).any fun y => eqV y (V.int i)) = _
    rw [ih]
    by_cases h : i = a
    · subst h
      rw [show eqV (V.int i) (V.int i) = true from decide_eq_true rfl, Bool.true_or, decide_eq_true List.mem_cons_self]
    · rw [show eqV (V.int a) (V.int i) = false from decide_eq_false (fun z => h (by have : a = i := z; exact this.symm)), Bool.false_or]
      exact decide_eq_decide.mpr ⟨fun z => List.mem_cons_of_mem _ z, fun z => (List.mem_cons.mp z).resolve_left h⟩
theorem int_flat : ∀ ks : List Int, (ks.map V.int).all flatV = true
  | [] => rfl
  | k :: ks => by
    rw [List.map_cons, List.all_cons, int_flat ks]
    rfl
theorem cut_pre (ks : List Int) {i : Nat} (h : i < ks.length) : cutV (ks.map V.int) none (some (i : Int)) = (ks.take i).map V.int ∧ ¬ (HT.sIx (ks.map V.int).length 0 none = 0 ∧ HT.sIx (ks.map V.int).length (ks.map V.int).length (some (i : Int)) = (ks.map V.int).length) := by
  refine ⟨?_, fun z => ?_⟩
  · unfold cutV
    rw [HT.sIx_none, HT.sIx_nat, List.length_map, Nat.min_eq_left (by omega), List.drop_zero, Nat.sub_zero, List.map_take]
  · have z2 := z.2
    rw [HT.sIx_nat, List.length_map] at z2
    omega
def spCd : Sp := fun vs H Q _ => ∃ (a : Addr) (ks : List Int), vs = [.ref a] ∧ Sq H a (ks.map V.int) ∧ ks.Nodup ∧ ∀ H' : Hp, Same H H' → Q .non H'
theorem not_pre {ks : List Int} (hd : ks.Nodup) {i : Nat} (h : i < ks.length) : decide (ks[i] ∈ ks.take i) = false := decide_eq_false fun z => by
  obtain ⟨j, hj, e⟩ := List.mem_take_iff_getElem.mp z
  have := List.pairwise_iff_getElem.mp (List.nodup_iff_pairwise_ne.mp hd) j i (by omega) h (by omega)
  exact this e
theorem ok_cd (T : Tx K mg A) : FnOk P w K mg base CX0 1 A.f_check_different A.d_check_different ["keys"] spCd := by
  refine T.F_check_different.ok sc_check_different (fun vs H Q E h => ?_) (fun cdv B outer s H vs Q E hr h => ?_)
  · obtain ⟨a, ks, rfl, _⟩ := h
    rfl
  · obtain ⟨a, ks, rfl, ha, hd, q⟩ := h
    have nd := sc_check_different.nd
    refine ⟨_, (pss_one (ps_for PassesOwn.never rfl (pi_enS (by rfl) T.g_enumerate (pa_cons (pv 0) pa_nil)) (pg_tup rfl (pgs_cons (pg_name (i := 1) nd rfl (Or.inl rfl)) (pgs_cons (pg_name (i := 2) nd rfl (Or.inl rfl)) pgs_nil))) (pss_one (ps_if (pt_cmpR (r := L2.rIn K false) op_in_seq (pv 2) (pe_slice (sl_list.or sl_tup) (pv 0) po_none (po_some (pv 1))) (by rfl)) (pss_one ps_never) pss_nil)))), ?_⟩
    rcases ha with ha | ha
    · refine ⟨_, rfl, a, _, rfl, .inl ⟨SqL.of ha, for_it (walk_enum (xs := ks.map V.int)) (fun i σ' H' => (∃ x1 x2 : Option V, σ' = [some (.ref a), x1, x2]) ∧ Same H H') ⟨⟨none, none, rfl⟩, Same.refl _⟩ (fun i σ' H' _ h => SqL.of (h.2 _ _ ha)) ?_ ?_⟩⟩
      · rintro i v σ' H2 H3 hi ⟨⟨x1, x2, rfl⟩, s⟩ ⟨T', x, y, rfl, hT, rfl, e1, e2⟩
        obtain ⟨hi2, rfl⟩ := ints_at e2
        cases e1
        refine ⟨_, _, rfl, SqT.of upd_same, rfl, _, _, rfl, _, _, rfl, rfl, ?_⟩
        have s3 := s.trans (Same.up (o := .tup [V.int (i : Nat), V.int ks[i]]) hT)
        generalize upd H2 T' (.tup [V.int (i : Nat), V.int ks[i]]) = G at s3
        refine ⟨_, rfl, _, rfl, _, rfl, _, rfl, sq_cut K (.inl (s3 _ _ ha)) (cut_pre ks hi2) fun p G2 s4 hp => ⟨p, _, rfl, hp.len, rfl, int_flat _, ?_⟩⟩
        rw [if_neg Bool.false_ne_true, inV_int, not_pre hd hi2]
        exact ⟨_, rfl, iteF ⟨⟨_, _, rfl⟩, s3.trans s4⟩⟩
      · rintro σ' H2 ⟨⟨x1, x2, rfl⟩, s⟩
        exact q _ s
    · refine ⟨_, rfl, a, _, rfl, .inr ⟨SqT.of ha, for_it (walk_enumT (xs := ks.map V.int)) (fun i σ' H' => (∃ x1 x2 : Option V, σ' = [some (.ref a), x1, x2]) ∧ Same H H') ⟨⟨none, none, rfl⟩, Same.refl _⟩ (fun i σ' H' _ h => SqT.of (h.2 _ _ ha)) ?_ ?_⟩⟩
      · rintro i v σ' H2 H3 hi ⟨⟨x1, x2, rfl⟩, s⟩ ⟨T', x, y, rfl, hT, rfl, e1, e2⟩
        obtain ⟨hi2, rfl⟩ := ints_at e2
        cases e1
        refine ⟨_, _, rfl, SqT.of upd_same, rfl, _, _, rfl, _, _, rfl, rfl, ?_⟩
        have s3 := s.trans (Same.up (o := .tup [V.int (i : Nat), V.int ks[i]]) hT)
        generalize upd H2 T' (.tup [V.int (i : Nat), V.int ks[i]]) = G at s3
        refine ⟨_, rfl, _, rfl, _, rfl, _, rfl, sq_cut K (.inr (s3 _ _ ha)) (cut_pre ks hi2) fun p G2 s4 hp => ⟨p, _, rfl, hp.len, rfl, int_flat _, ?_⟩⟩
        rw [if_neg Bool.false_ne_true, inV_int, not_pre hd hi2]
        exact ⟨_, rfl, iteF ⟨⟨_, _, rfl⟩, s3.trans s4⟩⟩
      · rintro σ' H2 ⟨⟨x1, x2, rfl⟩, s⟩
        exact q _ s
theorem b_cd (T : Tx K mg A) : L2.Binds K A.d_check_different ["keys"] [] := T.F_check_different.binds fun _ _ _ _ _ _ us hl => match us, hl with | [_], _ => rfl
def spDh : Sp := fun vs H Q _ => ∃ (r w : Nat) (ks : List Int), vs = [.ref r, .int w] ∧ (1 ≤ w ∧ w ≤ 4) ∧ RowIn H r ks ∧ faultL ks w = [] ∧ ks.Nodup ∧ ∀ H' q, Same H H' → H' q = some (.tup (ks.map V.int)) → Q (.ref q) H'
theorem ok_dh (T : Tx K mg A) : FnOk P w K mg base CX0 9 A.f_different_heap_of A.d_different_heap_of ["row", "arms"] spDh := by
  refine T.F_different_heap_of.ok sc_different_heap_of (fun vs H Q E h => ?_) (fun cdv B outer s H vs Q E hr h => ?_)
  · obtain ⟨r, w, ks, rfl, _⟩ := h
    rfl
  · obtain ⟨r, w, ks, rfl, hw, hrow, hf, hd, q⟩ := h
    have nd := sc_different_heap_of.nd
    refine ⟨_, (pss_cons (ps_set (i := 2) nd rfl (Or.inl rfl) (pe_call (ok_hp T) (hr.mono (by decide)) (by rfl) T.m_heap_of T.F_heap_of.kp (b_hp T) .nil pass0 (pa_cons (pv 0) (pa_cons (pv 1) pa_nil))))
      (pss_cons (ps_expr (pe_call (ok_cd T) (hr.mono (by decide)) (by rfl) T.m_check_different T.F_check_different.kp (b_cd T) .nil pass0 (pa_cons (pv 2) pa_nil)))
      (pss_one (ps_ret (pv 2))))), ?_⟩
    refine ⟨_, rfl, _, rfl, r, w, ks, rfl, hw, hrow, hf, fun H1 t s1 e1 => ?_⟩
    exact ⟨_, rfl, t, ks, rfl, .inr e1, hd, fun H2 s2 => ⟨_, rfl, q H2 t (s1.trans s2) (s2 _ _ e1)⟩⟩
def spWayF (C : Addr) : Sp := fun vs H Q _ => ∃ (p n w i : Nat), vs = [.ref p, .int i] ∧ TreeAt C H p n w ∧ i < n ∧ ∀ H' q, Same H H' → TupF H' q (vi (wayL w i)) → Q (.ref q) H'
theorem ok_wayF (T : Tx K mg A) : FnOk P w K mg base CX0 5 A.f_t_way_to A.d_t_way_to ["self", "place"] (spWayF A.C) := by
  refine T.F_t_way_to.ok sc_t_way_to (fun vs H Q E h => ?_) (fun cdv B outer s H vs Q E hr h => ?_)
  · obtain ⟨p, n, w, i, rfl, _⟩ := h
    rfl
  · obtain ⟨p, n, w, i, rfl, t, hi, q⟩ := h
    refine ⟨_, pss_cons (ps_set (i := 2) sc_t_way_to.nd rfl (Or.inl rfl) (pe_lst (pa_cons (pv 1) pa_nil)))
      (pss_cons (ps_set (i := 3) sc_t_way_to.nd rfl (Or.inl rfl) (pe_meth (pv 0) T.cT T.M_t_parent (ok_par T) hr (b_par T) .nil pass0 (pa_cons (pv 1) pa_nil)))
      (pss_cons (ps_while PassesOwn.never (pt_cmpR op_notN (pv 3) pe_non (nomark _))
        (pss_cons (ps_expr (pe_bm PySem.F.plainAttrs_list PySem.F.slot_list_append PySem.F.type_list_append mt_append (pv 2) (pa_cons (pv 3) pa_nil)))
        (pss_one (ps_set (i := 3) sc_t_way_to.nd rfl (Or.inl rfl) (pe_meth (pv 0) T.cT T.M_t_parent (ok_par T) hr (b_par T) .nil pass0 (pa_cons (pv 3) pa_nil))))))
      (pss_one (ps_ret (pe_callTy (r := rTupF K) call_tupF (by rfl) T.g_tuple (by decide +kernel) (pa_cons (pe_revL (pv 2)) pa_nil)))))), ?_⟩
    obtain ⟨dx, l, h1, h2⟩ := t.ob
    have noP : (tf n w l).lookup ("parent" : Str) = none := tf_no _ _ _ (by decide +kernel) (by decide +kernel) (by decide +kernel)
    refine ⟨_, rfl, by show 1 ≤ sizeLine; decide, fun d hd => ?_⟩
    have s1 : Same H (upd H d (.lst [V.int (i : Nat)])) := Same.up hd
    refine ⟨_, rfl, p, dx, _, rfl, s1 _ _ h1, noP, _, rfl, p, n, w, i, rfl, t.same s1, hi, ?_⟩
    refine while_by (fun σ H' => ∃ (c : Nat) (acc : List Nat), σ = [some (.ref p), some (.int i), some (.ref d), some (parV w c)] ∧ c < n ∧ Acc H d (vi (acc ++ [c])) H' ∧ acc ++ upL w c = upL w i ∧ acc.length ≤ 12)
      (fun σ _ => muV σ[3]?) ⟨i, [], rfl, hi, ⟨s1, hd, upd_same⟩, rfl, Nat.zero_le _⟩ ?_ ?_
    · rintro σ H' ⟨c, acc, rfl, hc, ac, ea, hl⟩
      have hn := t.hn
      have hw := t.hw
      have eu := up_eq w (by omega) c (by omega) hw.1
      refine ⟨_, rfl, rfl, _, rfl, ?_⟩
      by_cases h0 : c = 0
      · have ev : parV w c = V.non := by unfold parV; rw [if_pos h0]
        rw [ev, decide_eq_true (rfl : V.non = V.non)]
        refine iteF ?_
        rw [if_pos h0] at eu
        refine ⟨_, rfl, d, _, rfl, SqL.of ac.a, fun r hr0 => ⟨r, _, rfl, .inl ⟨SqL.of upd_same, fun u o hu ho => q _ u (ac.s.trans ((Same.up hr0).trans (Same.up hu))) ⟨o, ?_, ho⟩⟩⟩⟩
        unfold wayL
        rw [upd_same, vi_rev, ← ea, eu, h0]
      · have ev : parV w c = V.int ((c - 1) / w : Nat) := by unfold parV; rw [if_neg h0]
        rw [ev, decide_eq_false (show ¬ V.int ((c - 1) / w : Nat) = V.non from fun z => nomatch z)]
        refine iteT ?_
        rw [if_neg h0] at eu
        have hlt : (c - 1) / w < c := Nat.lt_of_le_of_lt (Nat.div_le_self _ _) (by omega)
        have hL : acc.length + 1 + (upL w ((c - 1) / w)).length = (upL w i).length := by
          rw [← ea, eu, List.length_append, List.length_cons]
          omega
        have hL2 := up_len w (by omega) i (by omega) hw.1
        have hL3 := up_eq w (by omega) ((c - 1) / w) (by omega) hw.1
        have hL4 : 1 ≤ (upL w ((c - 1) / w)).length := by
          rw [hL3]
          split
          · exact Nat.le_refl _
          · rw [List.length_cons]; omega
        refine ⟨_, rfl, .inl ⟨rfl, _, SqL.of ac.a⟩, _, rfl, d, _, _, rfl, rfl, ac.a, small1000 (by rw [vi_len, List.length_append, List.length_singleton]; omega), ?_⟩
        have e2 : vi (acc ++ [c]) ++ [V.int ((c - 1) / w : Nat)] = vi (acc ++ [c] ++ [(c - 1) / w]) := by rw [vi_app (acc ++ [c])]; rfl
        rw [e2]
        have ac2 : Acc H d (vi (acc ++ [c] ++ [(c - 1) / w])) (upd H' d (.lst (vi (acc ++ [c] ++ [(c - 1) / w])))) := ac.push
        refine ⟨_, rfl, p, dx, _, rfl, ac2.s _ _ h1, noP, _, rfl, p, n, w, (c - 1) / w, rfl, t.same ac2.s, by omega, ?_⟩
        refine ⟨⟨(c - 1) / w, acc ++ [c], rfl, by omega, ac2, ?_, by rw [List.length_append, List.length_singleton]; omega⟩, ?_⟩
        · rw [← ea, eu, List.append_assoc]
          rfl
        · show muV (some (some (parV w ((c - 1) / w)))) < muV (some (some (V.int ((c - 1) / w : Nat))))
          unfold parV
          split
          · show 0 < _
            exact Nat.succ_pos _
          · rename_i h9
            show (((((c - 1) / w - 1) / w : Nat) : Int)).toNat + 1 < ((((c - 1) / w : Nat) : Int)).toNat + 1
            rw [Int.toNat_natCast, Int.toNat_natCast]
            exact Nat.succ_lt_succ (Nat.lt_of_le_of_lt (Nat.div_le_self _ _) (Nat.sub_lt (Nat.pos_of_ne_zero h9) Nat.one_pos))
    · rintro σ' H1 Q1 Q2 mono ⟨v, hv, e1, b1, e2, z⟩
      exact ⟨v, hv, e1, b1, e2, mono _ _ z⟩
def spLw : Sp := fun vs H Q _ => ∃ (t w : Nat) (ks : List Int), vs = [.ref t, .int w] ∧ (1 ≤ w ∧ w ≤ 4) ∧ H t = some (.tup (ks.map V.int)) ∧ 1 ≤ ks.length ∧ ks.length ≤ 12 ∧ (∀ z ∈ ks, -1000000000 ≤ z ∧ z ≤ 1000000000) ∧ ∀ H' q, Same H H' → TupF H' q (vi (wayL w (ks.length - 1))) → Q (.ref q) H'
theorem ok_lw (T : Tx K mg A) : FnOk P w K mg base CX0 8 A.f_last_way A.d_last_way ["heap", "arms"] spLw := by
  obtain ⟨mo, ko⟩ := kb_of T
  refine T.F_last_way.ok sc_last_way (fun vs H Q E h => ?_) (fun cdv B outer s H vs Q E hr h => ?_)
  · obtain ⟨t, w, ks, rfl, _⟩ := h
    rfl
  · obtain ⟨t, w, ks, rfl, hw, ht, h1, h12, hb, q⟩ := h
    have nd := sc_last_way.nd
    refine ⟨_, PSs.nox (pss_one (ps_ret (pe_meth (pe_cmethK (pe_glob (v := .ref A.C) (by rfl) T.mC (relR _)) T.cr T.cof (ok_of T) (hr.mono (by decide)) ko pass0 (pa_cons (pv 0) pa_nil) (pk_cons (pv 1) pk_nil)) T.cT T.M_t_way_to (ok_wayF T) (hr.mono (by decide)) (b_way T) .nil pass0 (pa_cons (pe_op op_sub (pe_callB call_len_seq (by rfl) T.g_len PySem.boot_len (pa_cons (pv 0) pa_nil)) pe_int) pa_nil)))), ?_⟩
    refine ⟨rfl, _, rfl, _, rfl, rfl, rfl, t, w, ks, rfl, hw, .inr ht, h12, hb, fun H3 tr s3 p0 t3 => ?_⟩
    obtain ⟨dx, l, g1, g2⟩ := id t3.ob
    have noW : (tf ks.length w l).lookup ("way_to" : Str) = none := tf_no _ _ _ (by decide +kernel) (by decide +kernel) (by decide +kernel)
    refine ⟨tr, dx, _, rfl, g1, noW, _, rfl, t, _, rfl, .inr (SqT.of (s3 _ _ ht)), _, _, rfl, rfl, tr, ks.length, w, ks.length - 1, ?_, t3, by omega, fun H4 z s4 f4 => ?_⟩
    · rw [List.length_map]
      show [V.ref tr, V.int ((ks.length : Int) - 1)] = _
      rw [show ((ks.length : Nat) : Int) - 1 = ((ks.length - 1 : Nat) : Int) by omega]
    · exact q _ z (s3.trans s4) f4
def fdU (v0 v1 : V) : List (Str × V) := putF "key" v1 (putF "row" v0 (([] : List (Str × V))))
def AtU (C : Addr) (H : Hp) (p : Addr) (x0 : List Int) (x1 : Int) : Prop := ∃ (dx t0 : Addr), H p = some (.ins C dx (fdU (.ref t0) (.int x1))) ∧ H t0 = some (.tup (x0.map V.int))
theorem AtU.ext {C : Addr} {H H' : Hp} {p : Addr} {x0 : List Int} {x1 : Int} (h : AtU C H p x0 x1) (e : LamX.ExtN H H') : AtU C H' p x0 x1 := let ⟨dx, t0, h, e0⟩ := h; ⟨dx, t0, e _ _ h (fun _ z => nomatch z), e _ _ e0 (fun _ z => nomatch z)⟩
theorem AtU.same {C : Addr} {H H' : Hp} {p : Addr} {x0 : List Int} {x1 : Int} (h : AtU C H p x0 x1) (s : Same H H') : AtU C H' p x0 x1 := h.ext (extN_of s)
theorem AtU.ins {C : Addr} {H : Hp} {p : Addr} {x0 : List Int} {x1 : Int} (h : AtU C H p x0 x1) : ∃ dx fs, H p = some (.ins C dx fs) := let ⟨dx, t0, h, e0⟩ := h; ⟨dx, _, h⟩
def spIU (C : Addr) : Sp := fun vs H Q _ => ∃ (p dx a0 : Nat) (x0 : List Int) (x1 : Int), vs = [.ref p, .ref a0, .int x1] ∧ H p = some (.ins C dx []) ∧ (H a0 = some (.lst (x0.map V.int)) ∨ H a0 = some (.tup (x0.map V.int))) ∧ ∀ (H' : Hp), (∀ b o, H b = some o → b ≠ p → H' b = some o) → AtU C H' p x0 x1 → Q .non H'
theorem ok_iU (T : Tx K mg A) : FnOk P w K mg base CX0 1 A.f_u___init__ A.d_u___init__ ["self", "row", "key"] (spIU A.CU) := by
  refine T.F_u___init__.ok sc_u___init__ (fun vs H Q E h => ?_) (fun cdv B outer s H vs Q E hr h => ?_)
  · obtain ⟨p, dx, a0, x0, x1, rfl, _⟩ := h
    rfl
  · obtain ⟨p, dx, a0, x0, x1, rfl, hp, ha0, q⟩ := h
    refine ⟨_, (pss_cons (ps_fld (pv 0) (pe_callTy (r := rTupU) call_tupU (by rfl) T.g_tuple (by decide +kernel) (pa_cons (pv 1) pa_nil)) rfl)
      (pss_one (ps_fld (pv 0) (pv 2) rfl))), ?_⟩
    have fr : ∀ b o, H b = some o → b ≠ p → H b = some o := fun b o e _ => e
    refine ⟨_, rfl, a0, _, rfl, ha0, fun t0 G0 s0 e0 => ?_⟩
    have hp := s0 _ _ hp
    have fr : ∀ b o, H b = some o → b ≠ p → G0 b = some o := fun b o e n => s0 _ _ (fr b o e n)
    refine ⟨_, rfl, p, A.CU, dx, _, rfl, hp, T.cTU, T.uRow, (by show 0 < 1000; decide), ?_⟩
    have fr : ∀ b o, H b = some o → b ≠ p → (upd G0 p (.ins A.CU dx (putF "row" (.ref t0) ([])))) b = some o := fun b o e n => by rw [upd_ne n]; exact fr b o e n
    have e0 : (upd G0 p (.ins A.CU dx (putF "row" (.ref t0) ([])))) t0 = _ := (upd_ne (ne_of e0 hp (by intro z; cases z))).trans e0
    have hp : (upd G0 p (.ins A.CU dx (putF "row" (.ref t0) ([])))) p = _ := upd_same
    generalize upd G0 p (.ins A.CU dx (putF "row" (.ref t0) ([]))) = U0 at fr hp e0
    refine ⟨_, rfl, _, rfl, p, A.CU, dx, _, rfl, hp, T.cTU, T.uKey, (by show 1 < 1000; decide), ?_⟩
    have fr : ∀ b o, H b = some o → b ≠ p → (upd U0 p (.ins A.CU dx (putF "key" (.int x1) (putF "row" (.ref t0) ([]))))) b = some o := fun b o e n => by rw [upd_ne n]; exact fr b o e n
    have e0 : (upd U0 p (.ins A.CU dx (putF "key" (.int x1) (putF "row" (.ref t0) ([]))))) t0 = _ := (upd_ne (ne_of e0 hp (by intro z; cases z))).trans e0
    have hp : (upd U0 p (.ins A.CU dx (putF "key" (.int x1) (putF "row" (.ref t0) ([]))))) p = _ := upd_same
    exact q _ fr ⟨dx, t0, hp, e0⟩
theorem b_iU (T : Tx K mg A) : L2.Binds K A.d_u___init__ ["self", "row", "key"] [] := T.F_u___init__.binds fun _ _ _ _ _ _ us hl => match us, hl with | [_, _, _], _ => rfl
def fdY (v0 v1 : V) : List (Str × V) := putF "other" v1 (putF "place" v0 (([] : List (Str × V))))
def AtY (C : Addr) (H : Hp) (p : Addr) (x0 : Int) (x1 : Int) : Prop := ∃ (dx : Addr), H p = some (.ins C dx (fdY (.int x0) (.int x1)))
theorem AtY.ext {C : Addr} {H H' : Hp} {p : Addr} {x0 : Int} {x1 : Int} (h : AtY C H p x0 x1) (e : LamX.ExtN H H') : AtY C H' p x0 x1 := let ⟨dx, h⟩ := h; ⟨dx, e _ _ h (fun _ z => nomatch z)⟩
theorem AtY.same {C : Addr} {H H' : Hp} {p : Addr} {x0 : Int} {x1 : Int} (h : AtY C H p x0 x1) (s : Same H H') : AtY C H' p x0 x1 := h.ext (extN_of s)
theorem AtY.ins {C : Addr} {H : Hp} {p : Addr} {x0 : Int} {x1 : Int} (h : AtY C H p x0 x1) : ∃ dx fs, H p = some (.ins C dx fs) := let ⟨dx, h⟩ := h; ⟨dx, _, h⟩
def spIY (C : Addr) : Sp := fun vs H Q _ => ∃ (p dx : Nat) (x0 : Int) (x1 : Int), vs = [.ref p, .int x0, .int x1] ∧ H p = some (.ins C dx []) ∧ ∀ (H' : Hp), (∀ b o, H b = some o → b ≠ p → H' b = some o) → AtY C H' p x0 x1 → Q .non H'
theorem ok_iY (T : Tx K mg A) : FnOk P w K mg base CX0 1 A.f_y___init__ A.d_y___init__ ["self", "place", "other"] (spIY A.CY) := by
  refine T.F_y___init__.ok sc_y___init__ (fun vs H Q E h => ?_) (fun cdv B outer s H vs Q E hr h => ?_)
  · obtain ⟨p, dx, x0, x1, rfl, _⟩ := h
    rfl
  · obtain ⟨p, dx, x0, x1, rfl, hp, q⟩ := h
    refine ⟨_, (pss_cons (ps_fld (pv 0) (pv 1) rfl)
      (pss_one (ps_fld (pv 0) (pv 2) rfl))), ?_⟩
    have fr : ∀ b o, H b = some o → b ≠ p → H b = some o := fun b o e _ => e
    refine ⟨_, rfl, _, rfl, p, A.CY, dx, _, rfl, hp, T.cTY, T.yPlace, (by show 0 < 1000; decide), ?_⟩
    have fr : ∀ b o, H b = some o → b ≠ p → (upd H p (.ins A.CY dx (putF "place" (.int x0) ([])))) b = some o := fun b o e n => by rw [upd_ne n]; exact fr b o e n
    have hp : (upd H p (.ins A.CY dx (putF "place" (.int x0) ([])))) p = _ := upd_same
    generalize upd H p (.ins A.CY dx (putF "place" (.int x0) ([]))) = U0 at fr hp
    refine ⟨_, rfl, _, rfl, p, A.CY, dx, _, rfl, hp, T.cTY, T.yOther, (by show 1 < 1000; decide), ?_⟩
    have fr : ∀ b o, H b = some o → b ≠ p → (upd U0 p (.ins A.CY dx (putF "other" (.int x1) (putF "place" (.int x0) ([]))))) b = some o := fun b o e n => by rw [upd_ne n]; exact fr b o e n
    have hp : (upd U0 p (.ins A.CY dx (putF "other" (.int x1) (putF "place" (.int x0) ([]))))) p = _ := upd_same
    exact q _ fr ⟨dx, hp⟩
theorem b_iY (T : Tx K mg A) : L2.Binds K A.d_y___init__ ["self", "place", "other"] [] := T.F_y___init__.binds fun _ _ _ _ _ _ us hl => match us, hl with | [_, _, _], _ => rfl
theorem Sq.ext {H H' : Hp} {a : Addr} {xs : List V} (h : Sq H a xs) (e : ExtN H H') : Sq H' a xs := h.elim (fun x => .inl (e _ _ x (fun ps z => nomatch z))) fun x => .inr (e _ _ x (fun ps z => nomatch z))
theorem RowIn.ext {H H' : Hp} {a : Addr} {ns : List Int} (h : RowIn H a ns) (e : ExtN H H') : RowIn H' a ns := ⟨h.1.ext e, h.2⟩
theorem TreeAt.ext {C : Addr} {H H' : Hp} {p n w : Nat} (h : TreeAt C H p n w) (e : ExtN H H') : TreeAt C H' p n w :=
  ⟨let ⟨dx, t, a, b⟩ := h.ob; ⟨dx, t, e _ _ a (fun ps z => nomatch z), e _ _ b (fun ps z => nomatch z)⟩, h.hn, h.hw⟩
theorem PuOk.ext {H H' : Hp} {r w : Nat} {ks : List Int} {place : Nat} (h : PuOk H r w ks place) (e : ExtN H H') : PuOk H' r w ks place :=
  ⟨h.hw, ⟨h.row.1.imp (fun z => e _ _ z fun _ y => nomatch y) (fun z => e _ _ z fun _ y => nomatch y), h.row.2⟩, h.fl, h.nd, h.h1, h.pl⟩
theorem cut_from (xs : List V) (k : Nat) : cutV xs (some (k : Int)) none = xs.drop k := by
  unfold cutV
  rw [HT.sIx_none, HT.sIx_nat]
  rcases Nat.le_total k xs.length with h | h
  · rw [Nat.min_eq_left h, List.take_of_length_le (by rw [List.length_drop]; exact Nat.le_refl _)]
  · rw [Nat.min_eq_right h, List.drop_length, List.drop_eq_nil_of_le h, List.take_nil]
theorem mem_vi (i : Nat) (l : List Nat) : inV (V.int (i : Nat)) (vi l) = decide (i ∈ l) := by
  have key : ∀ j : Nat, eqV (V.int (j : Nat)) (V.int (i : Nat)) = decide (j = i) := fun j => by
    show ((j : Int) == (i : Int)) = decide (j = i)
    by_cases h : j = i
    · rw [h, decide_eq_true rfl, beq_self_eq_true]
    · rw [decide_eq_false h]
      exact beq_eq_false_iff_ne.mpr (by omega)
  unfold inV vi
  induction l with
  | nil => rfl
  | cons a l ih =>
    rw [List.map_cons, List.any_cons, ih, key]
    by_cases h : a = i
    · simp [h]
    · simp [h, Ne.symm h]
theorem vi_flat (l : List Nat) : (vi l).all flatV = true := by
  unfold vi
  rw [List.all_map]
  exact List.all_eq_true.mpr fun _ _ => rfl
def spBel (K : PySem.W.Frag) : Sp := fun vs H Q _ => ∃ (r w place : Nat) (ks : List Int), vs = [.ref r, .int place, .int w] ∧ PuOk H r w ks place ∧
  ∀ H' q t u, Same H H' → H' q = some (.tup [.ref t, .ref u]) → H' t = some (.tup (ks.map V.int)) → SqT K H' u (vi (belL w ks.length place)) → Q (.ref q) H'
theorem ok_bel (T : Tx K mg A) : FnOk P w K mg base CX0 10 A.f_heap_and_way_below A.d_heap_and_way_below ["row", "place", "arms"] (spBel K) := by
  refine T.F_heap_and_way_below.ok sc_heap_and_way_below (fun vs H Q E h => ?_) (fun cdv B outer s H vs Q E hr h => ?_)
  · obtain ⟨r, w, place, ks, rfl, _⟩ := h
    rfl
  · obtain ⟨r, w, place, ks, rfl, h, q⟩ := h
    have nd := sc_heap_and_way_below.nd
    have hu2 : (B.deeper (envOfC "heap_and_way_below" (defScope s_heap_and_way_below) s.heap.objs.size A.f_heap_and_way_below cdv)).units + 65 < cLine := by have := hr.un; omega
    have h1 := h.h1
    have h12 := h.row.2.1
    obtain ⟨b1, b2, b3, b4⟩ := bel_ok h.hw h12 h1 h.pl
    have hne : ks ≠ [] := fun z => by rw [z] at h1; simp at h1
    refine ⟨_, PSs.nox (pss_cons (ps_set (i := 3) nd rfl (Or.inl rfl) (pe_call (ok_dh T) (hr.mono (by decide)) (by rfl) T.m_different_heap_of T.F_different_heap_of.kp (b_dh T) .nil pass0 (pa_cons (pv 0) (pa_cons (pv 2) pa_nil))))
      (pss_cons (ps_expr (pe_call (ok_cf T) (hr.mono (by decide)) (by rfl) T.m_check_filled T.F_check_filled.kp (b_cf T) .nil pass0 (pa_cons (pv 3) pa_nil)))
      (pss_cons (ps_expr (pe_call (ok_cp T) (hr.mono (by decide)) (by rfl) T.m_check_place T.F_check_place.kp (b_cp T) .nil pass0 (pa_cons (pv 1) (pa_cons (pe_callB call_len_seq (by rfl) T.g_len PySem.boot_len (pa_cons (pv 3) pa_nil)) pa_nil))))
      (pss_cons (ps_set (i := 4) nd rfl (Or.inl rfl) (pe_call (ok_lw T) (hr.mono (by decide)) (by rfl) T.m_last_way T.F_last_way.kp (b_lw T) .nil pass0 (pa_cons (pv 3) (pa_cons (pv 2) pa_nil))))
      (pss_cons (ps_if (pt_cmpR (r := L2.rIn K true) op_notIn_seq (pv 1) (pv 4) (by rfl)) (pss_one ps_never) pss_nil)
      (pss_one (ps_ret (pe_tup (pa_cons (pv 3) (pa_cons (pe_slice sl_tup (pv 4) (po_some (pe_op op_add (pe_bmF PySem.F.slot_tuple_index PySem.F.type_tuple_index (mt_indexTI hu2) (pv 4) (pa_cons (pv 1) pa_nil)) pe_int)) po_none) pa_nil)))))))))), ?_⟩
    refine ⟨_, rfl, _, rfl, r, w, ks, rfl, h.hw, h.row, h.fl, h.nd, fun H1 t s1 e1 => ?_⟩
    refine ⟨_, rfl, t, _, rfl, e1, fun z => hne (List.map_eq_nil_iff.mp z), ?_⟩
    refine ⟨_, rfl, _, rfl, t, _, rfl, .inr (SqT.of e1), _, _, rfl, ⟨by omega, by rw [List.length_map]; omega⟩, ?_⟩
    refine ⟨_, rfl, _, rfl, t, w, ks, rfl, h.hw, e1, h1, h12, h.row.2.2, fun H2 z s2 f2 => ?_⟩
    have e2 := s2 _ _ e1
    refine ⟨_, rfl, _, rfl, z, _, rfl, .inr f2.sq, rfl, vi_flat _, _, rfl, ?_⟩
    rw [if_pos rfl, mem_vi, decide_eq_true h.pl]
    obtain ⟨i1, i2, i3⟩ := way_idx h.hw (by omega : ks.length - 1 ≤ 12) h.pl
    refine iteF ⟨_, rfl, _, rfl, _, rfl, ⟨z, _, rfl, f2⟩, _, rfl, z, wz (wayL w (ks.length - 1)), place, (wayL w place).length - 1, rfl, rfl, by rw [← vi_wz]; exact f2.sq, ?_, ?_, ?_⟩
    · unfold wz
      rw [List.getElem?_map, i1]
      rfl
    · intro m hm z
      unfold wz at z
      rw [List.getElem?_map] at z
      cases hz : (wayL w (ks.length - 1))[m]? with
      | none => rw [hz] at z; cases z
      | some c =>
        rw [hz] at z
        have hc : ((c : Nat) : Int) = (place : Nat) := Option.some.inj z
        exact i3 m hm (by rw [hz]; congr 1; omega)
    · refine ⟨_, _, rfl, rfl, _, rfl, z, _, rfl, f2.sq, ?_, fun u nu => ?_⟩
      · rw [show ((((wayL w place).length - 1 : Nat) : Int) + 1) = (((wayL w place).length : Nat) : Int) by omega, HT.sIx_nat, vi_len]
        have : (wayL w place).length ≤ (wayL w (ks.length - 1)).length := by rw [b4, List.length_append]; omega
        intro y
        omega
      · rw [show ((((wayL w place).length - 1 : Nat) : Int) + 1) = (((wayL w place).length : Nat) : Int) by omega, cut_from]
        have s3 := Same.up (o := .tup ((vi (wayL w (ks.length - 1))).drop (wayL w place).length)) nu
        have eu := upd_same (H := H2) (a := u) (o := .tup ((vi (wayL w (ks.length - 1))).drop (wayL w place).length))
        generalize upd H2 u (.tup ((vi (wayL w (ks.length - 1))).drop (wayL w place).length)) = H3 at s3 eu
        refine ⟨by show 2 ≤ sizeLine; decide, fun q' nq => ?_⟩
        have s4 := Same.up (o := .tup [.ref t, .ref u]) nq
        refine q _ q' t u (s1.trans (s2.trans (s3.trans s4))) upd_same (s4 _ _ (s3 _ _ e2)) ?_
        have := SqT.of (K := K) (s4 _ _ eu)
        rw [show (vi (wayL w (ks.length - 1))).drop (wayL w place).length = vi (belL w ks.length place) by unfold vi belL; rw [List.map_drop]] at this
        exact this
theorem b_bel (T : Tx K mg A) : L2.Binds K A.d_heap_and_way_below ["row", "place", "arms"] [] := T.F_heap_and_way_below.binds fun _ _ _ _ _ _ us hl => match us, hl with | [_, _, _], _ => rfl
theorem SqT.sm {K : PySem.W.Frag} {H H' : Hp} {a : Addr} {xs : List V} (s : Same H H') (h : SqT K H a xs) : SqT K H' a xs := by
  rcases h with (h | ⟨o, h⟩) | h
  · exact .inl (.inl (s _ _ h))
  · exact .inl (.inr ⟨o, s _ _ h⟩)
  · exact .inr h
theorem vi_getD {l : List Nat} {p : Nat} (h : p < l.length) : (vi l)[p]? = some (V.int (l.getD p 0 : Nat)) := by
  unfold vi
  rw [List.getElem?_map, List.getElem?_eq_getElem h, List.getD_eq_getElem?_getD, List.getElem?_eq_getElem h]
  rfl
def rvL (p : Nat) (l : List Nat) : List Nat := (p :: l).reverse
theorem SqT.put {H : Hp} {a D : Addr} {xs zs : List V} {o : HO} (hD : H D = some (.lst zs)) (h : SqT K H a xs) : SqT K (upd H D o) a xs := by
  rcases h with (h | ⟨o, h⟩) | h
  · exact .inl (.inl (by rw [upd_ne (ne_of h hD (by intro q; cases q))]; exact h))
  · exact .inl (.inr ⟨o, by rw [upd_ne (ne_of h hD (by intro q; cases q))]; exact h⟩)
  · exact .inr h
/-- t[lo:hi], by what it holds -/
def rSlS (K : PySem.W.Frag) : V → Option Int → Option Int → Hp → VK → Prop := fun x lo hi H Q => ∃ a xs, x = .ref a ∧ SqT K H a xs ∧ ∀ (p : Addr) (H' : Hp), Same H H' → SqT K H' p (cutV xs lo hi) → Q (.ref p) H'
theorem sl_tupS {X : Cx} : SlR X (rSlS X.K) := by
  intro pins s σ H x v vl vu lo hi sl Q I rx hs pl pu h
  obtain ⟨a, xs, ex, hx, q⟩ := h
  refine sl_tupA pins s σ H x v vl vu lo hi sl Q I rx hs pl pu ⟨a, xs, ex, hx, fun y => ?_, fun _ p np => q p _ (Same.up np) (SqT.of upd_same)⟩
  refine q a H (Same.refl _) ?_
  have : cutV xs lo hi = xs := by
    unfold cutV
    rw [y.1, y.2, List.drop_zero, Nat.sub_zero, List.take_length]
  rw [this]
  exact hx
end
end Tw

set_option Elab.async false
set_option linter.all false
set_option maxRecDepth 100000
set_option maxHeartbeats 2000000
namespace Tw
open PySem PySem.Spec PyProof.Rows L2
section
variable {P : Program} {w : World} {K : PySem.W.Frag} {mg : Str → Option Value} {base : Heap} {A : Ad}
open LamX (ExtN Tabs TabS)
theorem rv_len (p : Nat) (l : List Nat) : (rvL p l).length = l.length + 1 := by
  unfold rvL
  rw [List.length_reverse, List.length_cons]
theorem rv_get (p : Nat) (l : List Nat) {i : Nat} (h : i ≤ l.length) : (rvL p l).getD i 0 = (p :: l).getD (l.length - i) 0 := by
  unfold rvL
  rw [List.getD_eq_getElem?_getD, List.getD_eq_getElem?_getD, List.getElem?_reverse (by rw [List.length_cons]; omega), List.length_cons]
  congr 2
theorem rv_zero (p : Nat) (l : List Nat) : (rvL p l).getD 0 0 = endOf p l := by
  rw [rv_get p l (Nat.zero_le _), Nat.sub_zero, getD_last]
theorem last_wz {l : List Nat} (h : l ≠ []) : atI ((wz l).map V.int) (-1) = some (V.int ((lastW l : Nat) : Int)) := by
  obtain ⟨i, y, rfl⟩ : ∃ i y, l = i ++ [y] := ⟨l.dropLast, l.getLast h, (List.dropLast_concat_getLast h).symm⟩
  have e : (wz (i ++ [y])).map V.int = (wz i).map V.int ++ [V.int (y : Nat)] := by unfold wz; rw [List.map_append, List.map_append]; rfl
  have e2 : lastW (i ++ [y]) = y := by unfold lastW; simp
  rw [e, e2]
  exact last_at
theorem rv_vlast (p : Nat) (l : List Nat) : atI (vi (rvL p l)) (-1) = some (V.int ((p : Nat) : Int)) := by
  have e : rvL p l = l.reverse ++ [p] := by unfold rvL; rw [List.reverse_cons]
  have hw : wz (rvL p l) ≠ [] := fun z => by
    have := congrArg List.length z
    unfold wz at this
    rw [List.length_map, rv_len] at this
    simp at this
  rw [vi_wz, last_wz (fun z => hw (by rw [z]; rfl)), e]
  unfold lastW
  simp
def ruL (n : Nat) (R : List Int) (p : Nat) (l : List Nat) (j : Nat) : List Int := (List.range n).map fun c => if c = endOf p l then keyAt R p else if c ∈ ((rvL p l).drop 1).take j then keyAt R (nxt p l c) else keyAt R c
theorem ru_len (n : Nat) (R : List Int) (p : Nat) (l : List Nat) (j : Nat) : (ruL n R p l j).length = n := by
  unfold ruL
  rw [List.length_map, List.length_range]
theorem ru_at {n : Nat} {R : List Int} {p : Nat} {l : List Nat} {j c : Nat} (hc : c < n) : keyAt (ruL n R p l j) c = if c = endOf p l then keyAt R p else if c ∈ ((rvL p l).drop 1).take j then keyAt R (nxt p l c) else keyAt R c := by
  have e : (ruL n R p l j)[c]? = some (if c = endOf p l then keyAt R p else if c ∈ ((rvL p l).drop 1).take j then keyAt R (nxt p l c) else keyAt R c) := by
    unfold ruL
    rw [List.getElem?_map, List.getElem?_range hc]
    rfl
  show (ruL n R p l j).getD c 0 = _
  rw [List.getD_eq_getElem?_getD, e]
  rfl
theorem ru_zero {n : Nat} {R : List Int} (hl : R.length = n) {p : Nat} {l : List Nat} (he : endOf p l < n) : R.set (endOf p l) (keyAt R p) = ruL n R p l 0 := by
  refine ext_key (by rw [List.length_set, ru_len, hl]) fun c hc => ?_
  rw [List.length_set] at hc
  rw [keyAt_set (by omega), ru_at (by omega), List.take_zero, if_neg (show ¬ c ∈ [] by simp)]
theorem ru_succ {n w : Nat} (hw : 1 ≤ w) {R : List Int} {p : Nat} {l : List Nat} (hp : p < n) (hd : Down n w p l) {j : Nat} (h : j < l.length) : (ruL n R p l j).set ((rvL p l).getD (j + 1) 0) (keyAt R ((rvL p l).getD j 0)) = ruL n R p l (j + 1) := by
  have hj : (rvL p l).getD (j + 1) 0 = (p :: l).getD (l.length - (j + 1)) 0 := rv_get p l (by omega)
  have hj2 : (rvL p l).getD j 0 = l[l.length - (j + 1)] := by
    rw [rv_get p l (by omega), show l.length - j = l.length - (j + 1) + 1 by omega, List.getD_cons_succ, List.getD_eq_getElem?_getD, List.getElem?_eq_getElem (by omega)]
    rfl
  have hx := nxt_get hw l p hp hd (l.length - (j + 1)) (by omega)
  obtain ⟨g1, g2, g3, g4⟩ := down_get hw l p hp hd (l.length - (j + 1)) (by omega)
  rw [← hj] at hx g1 g2
  have hlt : ∀ i (hi : i < l.length), (p :: l).getD i 0 < l[i] := fun i hi => by
    obtain ⟨a, b, c, d⟩ := down_get hw l p hp hd i hi
    have := Nat.div_le_self (l[i] - 1) w
    omega
  have hdr : ((rvL p l).drop 1).take (j + 1) = ((rvL p l).drop 1).take j ++ [(rvL p l).getD (j + 1) 0] := by
    have hlen : j < ((rvL p l).drop 1).length := by rw [List.length_drop, rv_len]; omega
    rw [← List.take_append_getElem hlen, List.getElem_drop, List.getD_eq_getElem?_getD, List.getElem?_eq_getElem (by rw [rv_len]; omega), Option.getD_some]
    congr 2
    simp [Nat.add_comm]
  have hne : (rvL p l).getD (j + 1) 0 ≠ endOf p l := by
    have h1 := hlt (l.length - (j + 1)) (by omega)
    rw [← hj] at h1
    have h2 : l[l.length - (j + 1)] ≤ endOf p l := by
      have hle : ∀ (l : List Nat) (p : Nat), p < n → Down n w p l → ∀ c ∈ l, c ≤ endOf p l := by
        intro l
        induction l with
        | nil => intro p _ _ c hc; cases hc
        | cons b l ih =>
          intro p hp hd c hc
          obtain ⟨b1, b2⟩ := kid_in hw hd.1
          rw [end_cons]
          rcases List.mem_cons.mp hc with rfl | hc
          · exact (down_lt hw l c b2 hd.2).2.1
          · exact ih b b2 hd.2 c hc
      exact hle l p hp hd _ (List.getElem_mem _)
    omega
  refine ext_key (by rw [List.length_set, ru_len, ru_len]) fun c hc => ?_
  rw [List.length_set, ru_len] at hc
  rw [keyAt_set (by rw [ru_len]; exact g2), ru_at hc, ru_at hc, hdr]
  by_cases e : c = (rvL p l).getD (j + 1) 0
  · rw [if_pos e, e, if_neg hne, if_pos (List.mem_append_right _ (List.mem_singleton.mpr rfl)), hx, hj2]
  · rw [if_neg e]
    by_cases e2 : c = endOf p l
    · rw [if_pos e2, if_pos e2]
    · rw [if_neg e2, if_neg e2]
      by_cases e3 : c ∈ ((rvL p l).drop 1).take j
      · rw [if_pos e3, if_pos (List.mem_append_left _ e3)]
      · rw [if_neg e3, if_neg fun z => (List.mem_append.mp z).elim e3 fun y => e (List.mem_singleton.mp y)]
theorem ru_end {n w : Nat} (hw : 1 ≤ w) {R : List Int} (hl : R.length = n) {p : Nat} {l : List Nat} (hp : p < n) (hd : Down n w p l) : ruL n R p l l.length = dnS R p l := by
  refine ext_key (by rw [ru_len, dn_len, hl]) fun c hc => ?_
  rw [ru_len] at hc
  rw [ru_at hc, dn_at hw l R p hl hp hd, List.take_of_length_le (by rw [List.length_drop, rv_len]; omega)]
  by_cases e : c = endOf p l
  · rw [if_pos e, if_pos e]
  · rw [if_neg e, if_neg e]
    have h0 : (rvL p l).getD 0 0 :: (rvL p l).drop 1 = rvL p l := by
      have hlen : 0 < (rvL p l).length := by rw [rv_len]; omega
      cases hr : rvL p l with
      | nil => rw [hr] at hlen; simp at hlen
      | cons a b => rfl
    have hm : c ∈ (rvL p l).drop 1 ↔ c ∈ p :: l := by
      have h1 : c ∈ rvL p l ↔ c ∈ p :: l := by unfold rvL; rw [List.mem_reverse]
      rw [← h1, ← h0, rv_zero]
      exact ⟨fun z => List.mem_cons_of_mem _ z, fun z => (List.mem_cons.mp z).elim (fun y => absurd y e) id⟩
    by_cases e2 : c ∈ p :: l
    · rw [if_pos e2, if_pos (hm.mpr e2)]
    · rw [if_neg e2, if_neg (fun z => e2 (hm.mp z))]
def spRbU (K : PySem.W.Frag) : Sp := fun vs H Q _ => ∃ (a b p n w : Nat) (R : List Int) (l : List Nat), vs = [.ref a, .ref b] ∧ H a = some (.tup (R.map V.int)) ∧ SqT K H b (vi (rvL p l)) ∧ R.length = n ∧ n ≤ 12 ∧ 1 ≤ w ∧ p < n ∧ Down n w p l ∧
  ∀ (H' : Hp) (t : Addr), Same H H' → H' t = some (.tup ((dnS R p l).map V.int)) → Q (.ref t) H'
theorem ok_rbU (T : Tx K mg A) : FnOk P w K mg base CX0 1 A.f_row_before A.d_row_before ["row", "way"] (spRbU K) := by
  refine T.F_row_before.ok sc_row_before (fun vs H Q E h => ?_) (fun cdv B outer s H vs Q E hr h => ?_)
  · obtain ⟨a, b, p, n, w, R, l, rfl, _⟩ := h
    rfl
  · obtain ⟨a, b, p, n, w, R, l, rfl, ha, hb, hl, hn, hw, hp, hd, q⟩ := h
    have nd := sc_row_before.nd
    obtain ⟨_, _, he⟩ := down_lt hw l p hp hd
    refine ⟨_, PSs.nox (C8.pss_cut (ps_set (i := 2) nd rfl (Or.inl rfl) (pe_callTy call_list_of (by rfl) T.g_list (by decide +kernel) (pa_cons (pv 0) pa_nil)))
      (C8.pss_cut (ps_asg (pe_ix (r := rIxT K) ix_tup (pv 0) (pe_ix (r := rIxT K) ix_tup (pv 1) (pe_un un_neg pe_int) (fun _ _ => rfl)) (fun _ _ => rfl)) (pg_sub (pv 2) (pe_ix (r := rIxT K) ix_tup (pv 1) pe_int (fun _ _ => rfl)) set_list))
      (C8.pss_cut (ps_for PassesOwn.never rfl (RZ.pi_zipA (by rfl) T.g_zip (pa_cons (pv 1) (pa_cons (pe_slice (r := rSlS K) sl_tupS (pv 1) (po_some pe_int) po_none) pa_nil))) (pg_tup rfl (pgs_cons (pg_name (i := 3) nd rfl (Or.inl rfl)) (pgs_cons (pg_name (i := 4) nd rfl (Or.inl rfl)) pgs_nil))) (pss_one (ps_asg (pe_ix (r := rIxT K) ix_tup (pv 0) (pv 3) (fun _ _ => rfl)) (pg_sub (pv 2) (pv 4) set_list))))
      (pss_one (ps_ret (pe_callTy call_tuple_of (by rfl) T.g_tuple (by decide +kernel) (pa_cons (pv 2) pa_nil))))))), ?_⟩
    refine ⟨fun σ' H' => ∃ D : Addr, σ' = [some (.ref a), some (.ref b), some (.ref D), none, none] ∧ Acc H D (R.map V.int) H', ?_, ?_⟩
    · exact ⟨_, rfl, a, _, rfl, .inr (SqT.of ha), fun D nD => ⟨D, rfl, Same.up nD, nD, upd_same⟩⟩
    rintro σ' H1 ⟨D, rfl, ac1⟩
    have at0 : atI (vi (rvL p l)) ((0 : Nat) : Int) = some (V.int ((endOf p l : Nat) : Int)) := by
      have := vi_getD (l := rvL p l) (p := 0) (by rw [rv_len]; omega)
      rw [rv_zero] at this
      exact atI_nat this
    refine ⟨fun σ' H' => σ' = [some (.ref a), some (.ref b), some (.ref D), none, none] ∧ Acc H D ((ruL n R p l 0).map V.int) H', ?_, ?_⟩
    · refine ⟨_, rfl, _, rfl, _, rfl, b, _, _, _, rfl, rfl, SqT.sm ac1.s hb, rv_vlast p l, a, _, _, _, rfl, rfl, SqT.of (ac1.s _ _ ha), key_at (by omega), ?_⟩
      refine ⟨_, rfl, _, rfl, b, _, _, _, rfl, rfl, SqT.sm ac1.s hb, at0, D, _, _, endOf p l, rfl, rfl, ac1.a, ixN_nat (by rw [List.length_map]; omega), rfl, ?_⟩
      rw [set_int, ru_zero hl he]
      exact ac1.push
    rintro σ' H2 ⟨rfl, ac2⟩
    refine ⟨fun σ' H' => (∃ x3 x4 : Option V, σ' = [some (.ref a), some (.ref b), some (.ref D), x3, x4]) ∧ Acc H D ((dnS R p l).map V.int) H', ?_, ?_⟩
    · refine ⟨_, rfl, _, rfl, _, rfl, b, _, rfl, SqT.sm ac2.s hb, fun u H3 s3 eu => ?_⟩
      have ac3 := ac2.same s3
      have ev1 : cutV (vi (rvL p l)) (some 1) none = vi ((rvL p l).drop 1) := by
        rw [show (1 : Int) = ((1 : Nat) : Int) from rfl, cut_from]
        unfold vi
        rw [List.map_drop]
      rw [ev1] at eu
      have hb3 := SqT.sm ac3.s hb
      have hdl : (vi ((rvL p l).drop 1)).length = l.length := by rw [vi_len, List.length_drop, rv_len]; omega
      refine ⟨b, u, _, _, rfl, .inr ⟨hb3, eu, for_it (walk_zipT (n := l.length) (by rw [hdl, vi_len, rv_len]; omega)) (fun j σ' H' => (∃ x3 x4 : Option V, σ' = [some (.ref a), some (.ref b), some (.ref D), x3, x4]) ∧ Acc H D ((ruL n R p l j).map V.int) H' ∧ SqT K H' b (vi (rvL p l)) ∧ SqT K H' u (vi ((rvL p l).drop 1))) ⟨⟨none, none, rfl⟩, ac3, hb3, eu⟩ (fun j σ' H' _ h => ⟨h.2.2.1, h.2.2.2⟩) ?_ ?_⟩⟩
      · rintro j v σ' H4 H5 hj ⟨⟨x3, x4, rfl⟩, ac, sb, su⟩ ⟨T', x, y, rfl, hT, rfl, e1, e2⟩
        have e1 : (vi (rvL p l))[j]? = some x := e1
        rw [vi_getD (by rw [rv_len]; omega)] at e1
        have e2 : (vi ((rvL p l).drop 1))[j]? = some y := e2
        have ed : ((rvL p l).drop 1).getD j 0 = (rvL p l).getD (j + 1) 0 := by
          rw [List.getD_eq_getElem?_getD, List.getD_eq_getElem?_getD, List.getElem?_drop, Nat.add_comm 1 j]
        rw [vi_getD (by rw [List.length_drop, rv_len]; omega), ed] at e2
        cases e1
        cases e2
        have hlt : ∀ i, i ≤ l.length → (rvL p l).getD i 0 < n := fun i hi => by
          rw [rv_get p l hi]
          cases hk : l.length - i with
          | zero => exact hp
          | succ k =>
            rw [List.getD_cons_succ, List.getD_eq_getElem?_getD, List.getElem?_eq_getElem (by omega)]
            exact (down_get hw l p hp hd k (by omega)).2.2.2
        refine ⟨_, _, rfl, SqT.of upd_same, rfl, _, _, rfl, _, _, rfl, rfl, ?_⟩
        have s5 := Same.up (o := .tup [V.int ((rvL p l).getD j 0 : Nat), V.int ((rvL p l).getD (j + 1) 0 : Nat)]) hT
        have ac5 := ac.same s5
        have sb5 := SqT.sm s5 sb
        have su5 := SqT.sm s5 su
        generalize upd H4 T' (.tup [V.int ((rvL p l).getD j 0 : Nat), V.int ((rvL p l).getD (j + 1) 0 : Nat)]) = G at ac5 sb5 su5
        refine ⟨_, rfl, _, rfl, a, _, _, _, rfl, rfl, SqT.of (ac5.s _ _ ha), key_at (by have := hlt j (by omega); omega), _, rfl, _, rfl, D, _, _, (rvL p l).getD (j + 1) 0, rfl, rfl, ac5.a, ixN_nat (by rw [List.length_map, ru_len]; exact hlt (j + 1) (by omega)), ?_⟩
        rw [set_int, ru_succ hw hp hd hj]
        exact ⟨⟨_, _, rfl⟩, ac5.push, SqT.put ac5.a sb5, SqT.put ac5.a su5⟩
      · rintro σ' H4 ⟨⟨x3, x4, rfl⟩, ac, _, _⟩
        rw [ru_end hw hl hp hd] at ac
        exact ⟨⟨_, _, rfl⟩, ac⟩
    rintro σ' H3 ⟨⟨x3, x4, rfl⟩, ac3⟩
    exact ⟨_, rfl, D, _, rfl, .inl ⟨SqL.of ac3.a, fun t nt => q _ t (ac3.s.trans (Same.up nt)) upd_same⟩⟩
theorem b_gi (T : Tx K mg A) : L2.Binds K A.d_t___getitem__ ["self", "place"] [] := T.F_t___getitem__.binds fun _ _ _ _ _ _ us hl => match us, hl with | [_, _], _ => rfl
theorem b_rb (T : Tx K mg A) : L2.Binds K A.d_row_before ["row", "way"] [] := T.F_row_before.binds fun _ _ _ _ _ _ us hl => match us, hl with | [_, _], _ => rfl
theorem wz_get (l : List Nat) (i : Nat) : (wz l).getD i 0 = ((l.getD i 0 : Nat) : Int) := by
  unfold wz
  rw [List.getD_eq_getElem?_getD, List.getD_eq_getElem?_getD, List.getElem?_map]
  cases l[i]? <;> rfl
theorem least_wz {ks : List Int} {l : List Nat} {m : Int} (h : Cl.LeastAt ks (wz l) m) : m = ((leastC ks l : Nat) : Int) := by
  obtain ⟨j, fl, e⟩ := h
  rw [wz_get] at e
  have hl : (wz l).length = l.length := by unfold wz; rw [List.length_map]
  have ef : (fun i => ks.getD ((wz l).getD i 0).toNat 0) = fun i => keyAt ks (l.getD i 0) := by
    funext i
    rw [wz_get, Int.toNat_natCast]
    rfl
  rw [hl, ef] at fl
  rw [e, least_of fl]
/-- the children of a place, as the program cuts them -/
def kids (n w i : Nat) : List V := cutV (pl n) (some ((i : Int) * (w : Int) + 1)) (some ((i : Int) * (w : Int) + 1 + (w : Int)))
def spGi (C : Addr) : Sp := fun vs H Q _ => ∃ (p n w i : Nat), vs = [.ref p, .int i] ∧ TreeAt C H p n w ∧ i < n ∧ ∀ H' q, Same H H' → H' q = some (.tup (kids n w i)) → Q (.ref q) H'
theorem ok_gi (T : Tx K mg A) : FnOk P w K mg base CX0 4 A.f_t___getitem__ A.d_t___getitem__ ["self", "place"] (spGi A.C) := by
  refine T.F_t___getitem__.ok sc_t___getitem__ (fun vs H Q E h => ?_) (fun cdv B outer s H vs Q E hr h => ?_)
  · obtain ⟨p, n, w, i, rfl, _⟩ := h
    rfl
  · obtain ⟨p, n, w, i, rfl, t, hi, q⟩ := h
    obtain ⟨dx, l, h1, h2⟩ := t.ob
    refine ⟨_, pss_cons (ps_expr (pe_call (ok_cp T) hr (by rfl) T.m_check_place T.F_check_place.kp (b_cp T) .nil pass0 (pa_cons (pv 1) (pa_cons (pe_fld (pv 0) rfl) pa_nil))))
      (pss_cons (ps_set (i := 2) sc_t___getitem__.nd rfl (Or.inl rfl) (pe_op op_add (pe_op op_mul (pv 1) (pe_fld (pv 0) rfl)) pe_int))
      (pss_one (ps_ret (pe_slice sl_tup (pe_fld (pv 0) rfl) (po_some (pv 2)) (po_some (pe_op op_add (pv 2) (pe_fld (pv 0) rfl))))))), ?_⟩
    refine ⟨_, rfl, _, rfl, p, A.C, dx, _, _, rfl, h1, T.cT, T.nMany, tf_many _ _ _, _, _, rfl, ⟨by omega, by omega⟩, ?_⟩
    refine ⟨_, rfl, _, rfl, p, A.C, dx, _, _, rfl, h1, T.cT, T.nArms, tf_arms _ _ _, _, _, rfl, rfl, .inl ⟨by have := t.hn; omega, by have := t.hn; omega⟩, _, _, rfl, rfl, ?_⟩
    refine ⟨_, rfl, p, A.C, dx, _, _, rfl, h1, T.cT, T.nPl, tf_pl _ _ _, ?_⟩
    refine ⟨_, rfl, _, rfl, _, rfl, _, rfl, p, A.C, dx, _, _, rfl, h1, T.cT, T.nArms, tf_arms _ _ _, _, _, rfl, rfl, _, rfl, ?_⟩
    refine ⟨l, pl n, rfl, SqT.of h2, fun z => ?_, fun r hr0 => q _ r (Same.up hr0) upd_same⟩
    have z1 := z.1
    rw [pl_len, show ((i : Int) * (w : Int) + 1) = ((i * w + 1 : Nat) : Int) by push_cast; rfl, HT.sIx_nat] at z1
    omega
def kidsN (n w i : Nat) : List Nat := ((List.range n).drop (min (i * w + 1) n)).take (min (i * w + 1 + w) n - min (i * w + 1) n)
theorem kids_eq (n w i : Nat) : kids n w i = vi (kidsN n w i) := by
  unfold kids cutV kidsN
  rw [pl_len, show ((i : Int) * (w : Int) + 1) = ((i * w + 1 : Nat) : Int) by push_cast; rfl, show (((i * w + 1 : Nat) : Int) + (w : Int)) = ((i * w + 1 + w : Nat) : Int) by push_cast; rfl, HT.sIx_nat, HT.sIx_nat]
  unfold vi pl
  rw [List.map_take, List.map_drop]
theorem kids_same : ∀ n, n < 13 → ∀ w, w < 5 → ∀ i, i < n → 1 ≤ w → kidsN n w i = kidL n w i := by decide +kernel
theorem kids_vi (n w i : Nat) (hn : n ≤ 12) (hw : 1 ≤ w ∧ w ≤ 4) (hi : i < n) : kids n w i = (wz (kidL n w i)).map V.int := by
  rw [kids_eq, kids_same n (by omega) w (by omega) i hi hw.1, vi_wz]
theorem bad_some {n w : Nat} {ks : List Int} {l : List Nat} {j : Nat} (hj : j < l.length) (h : ∀ c ∈ l.take j, leastC ks (kidL n w ((c - 1) / w)) = c) (hne : leastC ks (kidL n w ((l[j] - 1) / w)) ≠ l[j]) : badL n w ks l = some l[j] := by
  have e : l = l.take j ++ l[j] :: l.drop (j + 1) := by rw [← List.drop_eq_getElem_cons hj, List.take_append_drop]
  have h1 : (l.take j).find? (fun q => !(leastC ks (kidL n w ((q - 1) / w)) == q)) = none := List.find?_eq_none.mpr fun c hc => by
    rw [beq_iff_eq.mpr (h c hc)]
    decide
  show l.find? (fun q => !(leastC ks (kidL n w ((q - 1) / w)) == q)) = _
  conv => lhs; rw [e]
  rw [List.find?_append, h1, Option.none_or, List.find?_cons, beq_eq_false_iff_ne.mpr hne]
  rfl
theorem bad_none {n w : Nat} {ks : List Int} {l : List Nat} (h : ∀ c ∈ l, leastC ks (kidL n w ((c - 1) / w)) = c) : badL n w ks l = none := List.find?_eq_none.mpr fun c hc => by
  rw [beq_iff_eq.mpr (h c hc)]
  decide
theorem cut_back (xs : List V) : cutV xs none (some (-1)) = xs.take (xs.length - 1) := by
  unfold cutV
  rw [HT.sIx_none, List.drop_zero, Nat.sub_zero]
  congr 1
  unfold HT.sIx
  show (if (-1 : Int) < 0 then _ else _) = _
  rw [if_pos (by decide)]
  omega
def FndU (A : Ad) (w : Nat) (ks : List Int) (place : Nat) (H : Hp) (q : Addr) : Prop :=
  (∃ c, badL ks.length w ks (belL w ks.length place) = some c ∧ AtY A.CY H q (c : Nat) (leastC ks (kidL ks.length w ((c - 1) / w)) : Nat)) ∨ (badL ks.length w ks (belL w ks.length place) = none ∧ AtU A.CU H q (undR w ks place) (keyAt ks place))
def spUp2 (K : PySem.W.Frag) (A : Ad) : Sp := fun vs H Q _ => ∃ (r w place : Nat) (ks : List Int), vs = [.ref r, .int place, .int w] ∧ PuOk H r w ks place ∧ Tabs (TT A) H ∧
  ∀ H' q, ExtN H H' → Tabs (TT A) H' → FndU A w ks place H' q → Q (.ref q) H'
theorem ok_up2 (T : Tx K mg A) (TB : LamX.TabB base mg A.c_undo_push A.P_undo_push) : FnOk P w K mg base CX0 11 A.f_undo_push A.d_undo_push ["row", "place", "arms"] (spUp2 K A) := by
  obtain ⟨oc, od, kV, doc, pm, an, ct, osl, ed, lk, hcd⟩ := T.L_undo_push
  obtain ⟨mo, ko⟩ := kb_of T
  rw [ed] at lk ⊢
  refine fn_of lk hcd sc_undo_push (fun vs H Q E h => ?_) (fun B outer s H vs Q E hr h => ?_)
  · obtain ⟨r, w, place, ks, rfl, _⟩ := h
    rfl
  · obtain ⟨r, w, place, ks, rfl, h, hT, q⟩ := h
    have nd := sc_undo_push.nd
    have h1 := h.h1
    have hw := h.hw
    have h12 := h.row.2.1
    obtain ⟨b1, b2, b3, b4⟩ := bel_ok hw h12 h1 h.pl
    obtain ⟨l, el⟩ : ∃ l, l = belL w ks.length place := ⟨_, rfl⟩
    have hlm : ∀ c ∈ l, place < c ∧ c < ks.length := by rw [el]; exact (down_lt hw.1 _ _ b1 b2).1
    refine ⟨_, PSs.nox (pss_cons (ps_asg (pe_call (ok_bel T) (hr.mono (by decide)) (by rfl) T.m_heap_and_way_below T.F_heap_and_way_below.kp (b_bel T) .nil pass0 (pa_cons (pv 0) (pa_cons (pv 1) (pa_cons (pv 2) pa_nil)))) (pg_tup rfl (pgs_cons (pg_name (i := 8) nd rfl (Or.inr rfl)) (pgs_cons (pg_name (i := 3) nd rfl (Or.inl rfl)) pgs_nil))))
      (pss_cons (ps_set (i := 4) nd rfl (Or.inl rfl) (pe_cmethK (pe_glob (v := .ref A.C) (by rfl) T.mC (relR _)) T.cr T.cof (ok_of T) (hr.mono (by decide)) ko pass0 (pa_cons (pv 8) pa_nil) (pk_cons (pv 2) pk_nil)))
      (C8.pss_cut (ps_for PassesOwn.never rfl (pi_tup (pv 3)) (pg_name (i := 5) nd rfl (Or.inl rfl)) (pss_cons (ps_set (i := 6) nd rfl (Or.inl rfl) (Cl.pe_minlamT (T := TT A) (x := "child") (y := "heap") (j := 8) (by rfl) T.g_min (pe_gi T.D_t___getitem__ (ok_gi T) (hr.mono (by decide)) (b_gi T) pass0 (pv 4) (pe_meth (pv 4) T.cT T.M_t_parent (ok_par T) (hr.mono (by decide)) (b_par T) .nil pass0 (pa_cons (pv 5) pa_nil))) hr.depth hr.hd TB rfl (List.mem_singleton.mpr rfl) (fun p hp _ => by rw [List.mem_singleton.mp hp]; rfl) ⟨rfl, rfl, rfl, by decide +kernel, by decide +kernel, by decide +kernel⟩ (show (defScope s_undo_push).names.lookup ("heap" : Str) = some NameKind.cell by decide +kernel) (by decide +kernel) rfl rfl (fun _ _ _ _ _ _ => rfl)))
      (pss_one (ps_if (pt_cmpR op_ne (pv 6) (pv 5) (nomark _)) (pss_one (ps_ret (pe_make T.mkCY (ok_iY T) (hr.mono (by decide)) (by rfl) T.mCY (b_iY T) .nil pass0 (pa_cons (pv 5) (pa_cons (pv 6) pa_nil))))) pss_nil))))
      (pss_cons (ps_set (i := 7) nd rfl (Or.inl rfl) (pe_call (ok_rbU T) (hr.mono (by decide)) (by rfl) T.m_row_before T.F_row_before.kp (b_rb T) .nil pass0 (pa_cons (pv 8) (pa_cons (pe_op (r := rCatU) op_catU (pe_revT (pv 3) (pe_un un_neg pe_int)) (pe_tup (pa_cons (pv 1) pa_nil))) pa_nil))))
      (pss_one (ps_ret (pe_make T.mkCU (ok_iU T) (hr.mono (by decide)) (by rfl) T.mCU (b_iU T) .nil pass0 (pa_cons (pe_slice (r := rSlU) sl_tupU (pv 7) po_none (po_some (pe_un un_neg pe_int))) (pa_cons (pe_ix (r := rIxT K) ix_tup (pv 8) (pv 1) (fun _ _ => rfl)) pa_nil))))))))), ?_⟩
    refine ⟨_, rfl, _, rfl, _, rfl, r, w, place, ks, rfl, h, fun H1 z t u s1 ez e1 eu => ?_⟩
    refine ⟨_, _, rfl, SqT.of ez, rfl, _, _, rfl, _, _, rfl, rfl, ?_⟩
    refine ⟨rfl, _, rfl, _, rfl, rfl, rfl, t, w, ks, rfl, hw, .inr e1, h12, h.row.2.2, fun H2 tr s2 p0 t2 => ?_⟩
    have s12 := s1.trans s2
    rw [← el] at eu b2 b3
    refine ⟨fun σ' H' => ∃ x5 x6, σ' = [some (.ref r), some (.int place), some (.int w), some (.ref u), some (.ref tr), x5, x6, none, some (.ref t)] ∧ ExtN H H' ∧ Tabs (TT A) H' ∧ H' t = some (.tup (ks.map V.int)) ∧ SqT K H' u (vi l) ∧ ∀ c ∈ l, leastC ks (kidL ks.length w ((c - 1) / w)) = c, ?_, ?_⟩
    · refine ⟨_, rfl, u, rfl, ⟨_, SqT.sm s2 eu⟩, for_it (walk_tup (xs := vi l)) (fun j σ' H' => (∃ x5 x6, σ' = [some (.ref r), some (.int place), some (.int w), some (.ref u), some (.ref tr), x5, x6, none, some (.ref t)]) ∧ ExtN H H' ∧ Tabs (TT A) H' ∧ H' t = some (.tup (ks.map V.int)) ∧ SqT K H' u (vi l) ∧ TreeAt A.C H' tr ks.length w ∧ ∀ c ∈ l.take j, leastC ks (kidL ks.length w ((c - 1) / w)) = c)
        ⟨⟨none, none, rfl⟩, extN_of s12, hT.ext s12, s2 _ _ e1, SqT.sm s2 eu, t2, fun c hc => by rw [List.take_zero] at hc; cases hc⟩ (fun j σ' H' _ h => h.2.2.2.2.1) ?_ ?_⟩
      · rintro j x σ' B1o B1 hj ⟨⟨x5, x6, rfl⟩, e, tb, et, su, ta, hb⟩ ⟨rfl, hx⟩
        rw [vi_len] at hj
        rw [vi_getD hj] at hx
        cases hx
        have el2 : l.getD j 0 = l[j] := by rw [List.getD_eq_getElem?_getD, List.getElem?_eq_getElem hj]; rfl
        rw [el2]
        obtain ⟨hc1, hc2⟩ := hlm l[j] (List.getElem_mem hj)
        obtain ⟨c, ec⟩ : ∃ c, c = l[j] := ⟨_, rfl⟩
        rw [← ec] at hc1 hc2 ⊢
        have hpc : (c - 1) / w < c := by have := Nat.div_le_self (c - 1) w; omega
        have hck : c ∈ kidL ks.length w ((c - 1) / w) := mem_kid.mpr ⟨by omega, hc2, rfl⟩
        obtain ⟨dx, lt, g1, g2⟩ := id ta.ob
        have noP : (tf ks.length w lt).lookup ("parent" : Str) = none := tf_no _ _ _ (by decide +kernel) (by decide +kernel) (by decide +kernel)
        refine ⟨_, rfl, _, rfl, tr, dx, _, rfl, g1, noP, _, rfl, tr, ks.length, w, c, rfl, ta, hc2, ?_⟩
        rw [show parV w c = V.int (((c - 1) / w : Nat) : Int) by unfold parV; rw [if_neg (by omega)]]
        refine ⟨tr, dx, _, rfl, g1, tr, ks.length, w, (c - 1) / w, rfl, ta, by omega, fun B2 ch s3 ech => ?_⟩
        rw [kids_vi _ _ _ h12 hw (by omega)] at ech
        refine ⟨ch, t, wz (kidL ks.length w ((c - 1) / w)), ks, rfl, SqT.of ech, rfl, SqT.of (s3 _ _ et), ?_, ?_, tb.ext s3, fun m B3 e3 t3 hm => ?_⟩
        · unfold wz
          rw [List.length_map]
          exact List.length_pos_iff.mpr (List.ne_nil_of_mem hck)
        · intro z hz
          unfold wz at hz
          obtain ⟨j, hj, rfl⟩ := List.mem_map.mp hz
          have := kid_in hw.1 hj
          omega
        have em := least_wz hm
        subst em
        have e13 := (e.trans (extN_of s3)).trans e3
        have et3 := e3 _ _ (s3 _ _ et) (fun _ z => nomatch z)
        refine ⟨_, rfl, _, rfl, rfl, _, rfl, ?_⟩
        by_cases hlc : leastC ks (kidL ks.length w ((c - 1) / w)) = c
        · refine ite_b (c := false) (by rw [hlc, decide_eq_true rfl]; rfl) (iteF ⟨⟨_, _, rfl⟩, e13, t3, et3, e3.sqT (SqT.sm s3 su), (ta.same s3).ext e3, fun c' hc' => ?_⟩)
          rw [← List.take_append_getElem hj] at hc'
          rcases List.mem_append.mp hc' with y | y
          · exact hb c' y
          · rw [List.mem_singleton.mp y, ← ec]
            exact hlc
        · refine ite_b (c := true) (by rw [decide_eq_false fun z => hlc (by injection z with z; omega)]; rfl) (iteT ⟨_, rfl, _, rfl, fun x dx nx ndx nex => ?_⟩)
          have hbd : badL ks.length w ks (belL w ks.length place) = some c := by
            rw [← el, ec]
            exact bad_some hj hb (by rw [← ec]; exact hlc)
          exact ⟨x, dx, _, _, rfl, upd_same, fun B4 k4 st => ⟨rfl, q B4 x (e13.trans (extN_of (new_same nx ndx k4))) (t3.ext (new_same nx ndx k4)) (.inl ⟨c, hbd, st⟩)⟩⟩
      · rintro σ' B1 ⟨⟨x5, x6, rfl⟩, e, tb, et, su, ta, hb⟩
        rw [vi_len, List.take_length] at hb
        exact ⟨_, _, rfl, e, tb, et, su, hb⟩
    rintro σ' H3 ⟨x5, x6, rfl, e3, t3, et3, su3, hall⟩
    refine ⟨_, rfl, _, rfl, _, rfl, rfl, u, _, rfl, su3, fun f H4 s4 e4 => ?_⟩
    refine ⟨_, rfl, by show 1 ≤ sizeLine; decide, fun c nc => ?_⟩
    have s5 := Same.up (o := .tup [V.int (place : Nat)]) nc
    have ec := upd_same (H := H4) (a := c) (o := .tup [V.int (place : Nat)])
    generalize upd H4 c (.tup [V.int (place : Nat)]) = H5 at s5 ec
    have hll : l.length ≤ 12 := by
      have h1 := congrArg List.length b4
      have h2 := way_len w (by omega) (ks.length - 1) (by omega) hw.1
      have h3 := (way_idx hw (by omega) h.pl).2.1
      rw [List.length_append, ← el] at h1
      omega
    refine ⟨f, c, _, _, rfl, rfl, s5 _ _ e4, ec, by rw [List.length_reverse, vi_len, List.length_singleton, sizeLine_eq]; omega, fun g H6 s6 e6 => ?_⟩
    have s46 := s4.trans (s5.trans s6)
    have et6 := s46 _ _ et3
    have erv : (vi l).reverse ++ [V.int (place : Nat)] = vi (rvL place l) := by
      unfold rvL vi
      rw [List.reverse_cons, List.map_append, List.map_reverse]
      rfl
    rw [erv] at e6
    refine ⟨t, g, place, ks.length, w, ks, l, rfl, et6, SqT.of e6, rfl, h12, hw.1, b1, b2, fun H7 o s7 e7 => ?_⟩
    refine ⟨_, rfl, _, rfl, _, rfl, o, _, rfl, e7, fun f8 H8 s8 e8 => ?_⟩
    rw [cut_back, List.length_map, dn_len, ← List.map_take] at e8
    have et8 := s8 _ _ (s7 _ _ et6)
    refine ⟨_, rfl, _, rfl, t, _, _, _, rfl, rfl, SqT.of et8, key_at b1, fun x dx nx ndx nex => ?_⟩
    have s9 := new_up (C := A.CU) nx ndx nex
    refine ⟨x, dx, f8, (dnS ks place l).take (ks.length - 1), _, rfl, upd_same, .inr (s9 _ _ e8), fun H9 k9 st => ⟨rfl, ?_⟩⟩
    have s := s46.trans (s7.trans (s8.trans (new_same nx ndx k9)))
    refine q H9 x (e3.trans (extN_of s)) (t3.ext s) (.inr ⟨by rw [← el]; exact bad_none hall, ?_⟩)
    unfold undR
    rw [← el]
    exact st
theorem q4 : ¬ (("stops" : Str) = "looks") := by decide +kernel
theorem tabs_upd {T : List (Addr × Str)} {H : Hp} {D : Addr} {xs : List V} {o : HO} (t : Tabs T H) (h : H D = some (.lst xs)) : Tabs T (upd H D o) := fun p hp => by
  obtain ⟨ps, h1, h2, h3⟩ := t p hp
  refine ⟨ps, by rw [upd_ne (ne_of h1 h (by intro z; cases z))]; exact h1, h2, fun pos cv hc => ?_⟩
  obtain ⟨c, e1, e2⟩ := h3 pos cv hc
  exact ⟨c, e1, by rw [upd_ne (ne_of e2 h (by intro z; unfold LamX.CodeO at z; cases z))]; exact e2⟩
end
end Tw

set_option Elab.async false
set_option linter.all false
set_option maxRecDepth 100000
set_option maxHeartbeats 2000000
namespace Tw
open PySem PySem.Spec PyProof.Rows L2
section
variable {P : Program} {w : World} {K : PySem.W.Frag} {mg : Str → Option Value} {base : Heap} {A : Ad}
open LamX (ExtN Tabs TabS)
/-! last_places -/
structure AccE (Ts : List (Addr × Str)) (H1 : Hp) (D : Addr) (acc : List V) (H : Hp) : Prop where
  e : ExtN H1 H
  t : Tabs Ts H
  n : H1 D = Option.none
  a : H D = some (.lst acc)
theorem AccE.start {Ts : List (Addr × Str)} {H1 : Hp} {D : Addr} (t : Tabs Ts H1) (n : H1 D = none) : AccE Ts H1 D [] (upd H1 D (.lst [])) := ⟨extN_of (Same.up n), t.ext (Same.up n), n, upd_same⟩
theorem AccE.ext {Ts : List (Addr × Str)} {H1 H H' : Hp} {D : Addr} {acc : List V} (h : AccE Ts H1 D acc H) (e : ExtN H H') (t : Tabs Ts H') : AccE Ts H1 D acc H' := ⟨h.e.trans e, t, h.n, e _ _ h.a (fun ps z => nomatch z)⟩
theorem AccE.push {Ts : List (Addr × Str)} {H1 H : Hp} {D : Addr} {acc zs : List V} (h : AccE Ts H1 D acc H) : AccE Ts H1 D zs (upd H D (.lst zs)) :=
  ⟨fun b o e n => by rw [upd_ne (ne_of_none e h.n)]; exact h.e _ _ e n, tabs_upd h.t h.a, h.n, upd_same⟩
def freeB (w : Nat) (ks : List Int) (p : Nat) : Bool := decide (badL ks.length w ks (belL w ks.length p) = none)
def lastP (w : Nat) (ks : List Int) : List Nat := (wayL w (ks.length - 1)).filter (freeB w ks)
structure HpD (H : Hp) (r w : Nat) (ks : List Int) : Prop where
  hw : 1 ≤ w ∧ w ≤ 4
  row : RowIn H r ks
  fl : faultL ks w = []
  nd : ks.Nodup
  h1 : 1 ≤ ks.length
theorem way_n12 : ∀ w, w < 5 → ∀ i, i < 13 → 1 ≤ w → (wayL w i).length ≤ 13 := by decide +kernel
def spLp (A : Ad) : Sp := fun vs H Q _ => ∃ (r w : Nat) (ks : List Int), vs = [.ref r, .int w] ∧ HpD H r w ks ∧ Tabs (TT A) H ∧
  ∀ H' q, ExtN H H' → Tabs (TT A) H' → H' q = some (.lst (vi (lastP w ks))) → Q (.ref q) H'
theorem ok_lp (T : Tx K mg A) (TB : LamX.TabB base mg A.c_undo_push A.P_undo_push) : FnOk P w K mg base CX0 12 A.f_last_places A.d_last_places ["row", "arms"] (spLp A) := by
  obtain ⟨mu, kup⟩ := kup2 T
  refine T.F_last_places.ok sc_last_places (fun vs H Q E h => ?_) (fun cdv B outer s H vs Q E hr h => ?_)
  · obtain ⟨r, w, ks, rfl, _⟩ := h
    rfl
  · obtain ⟨r, w, ks, rfl, hp, hT, q⟩ := h
    have nd := sc_last_places.nd
    have h12 := hp.row.2.1
    have h1 := hp.h1
    have hw := hp.hw
    refine ⟨_, (pss_cons (ps_set (i := 2) nd rfl (Or.inr rfl) (pe_call (ok_dh T) (hr.mono (by decide)) (by rfl) T.m_different_heap_of T.F_different_heap_of.kp (b_dh T) .nil pass0 (pa_cons (pv 0) (pa_cons (pv 1) pa_nil))))
      (pss_cons (ps_expr (pe_call (ok_cf T) (hr.mono (by decide)) (by rfl) T.m_check_filled T.F_check_filled.kp (b_cf T) .nil pass0 (pa_cons (pv 2) pa_nil)))
      (pss_one (ps_ret (pe_lc (own := [("place", 3)]) (g := gName 3) rfl nd (pi_tup (pe_call (ok_lw T) (hr.mono (by decide)) (by rfl) T.m_last_way T.F_last_way.kp (b_lw T) .nil pass0 (pa_cons (pv 2) (pa_cons (pv 1) pa_nil)))) (blkOk_by (own := [("place", 3)]) (N := ["row", "arms", "heap", "place"]) (sc := (defScope s_last_places)) (by decide +kernel)) (fun _ _ _ _ _ => pg_name (i := 3) nd rfl (Or.inl rfl)) (fun _ _ _ _ _ => pts_one (pt_val (pe_callB (r := rIsi K) call_isi (by rfl) T.g_isinstance (by decide +kernel) (pa_cons (pe_callN (ok_up2 T TB) (hr.mono (by decide)) (by rfl) T.m_undo_push T.F_undo_push.kp kup pass0 (pa_cons (pv 2) (pa_cons (pv 3) pa_nil)) (pk_cons (pv 1) pk_nil)) (pa_cons (pe_glob (v := .ref A.CU) (by rfl) T.mCU (relR _)) pa_nil))))) (fun _ _ _ _ _ => (pv 3))))))), ?_⟩
    refine ⟨_, rfl, _, rfl, r, w, ks, rfl, hw, hp.row, hp.fl, hp.nd, fun H1 t s1 et => ?_⟩
    have hne : ks.map V.int ≠ [] := fun z => by
      have := List.map_eq_nil_iff.mp z
      rw [this] at h1
      exact absurd h1 (by decide)
    refine ⟨_, rfl, t, _, rfl, et, hne, ?_⟩
    refine ⟨_, rfl, _, rfl, t, w, ks, rfl, hw, et, h1, h12, hp.row.2.2, fun H2 u s2 fu => ?_⟩
    have s12 := s1.trans s2
    have et2 := s2 _ _ et
    have hsq : SqT K H2 u (vi (wayL w (ks.length - 1))) := fu.sq
    refine ⟨u, rfl, ⟨_, hsq⟩, fun D nD => ?_⟩
    have hwl := way_n12 w (by omega) (ks.length - 1) (by omega) hw.1
    refine lc_it (walk_tup (xs := vi (wayL w (ks.length - 1)))) (fun i H' => AccE (TT A) H2 D (vi (((wayL w (ks.length - 1)).take i).filter (freeB w ks))) H') (AccE.start (hT.ext s12) nD) (fun i H' _ ac => ac.e.sqT hsq) ?_ ?_
    · rintro i x H3o H3 hi ac ⟨rfl, hx⟩
      rw [vi_len] at hi
      rw [vi_getD hi] at hx
      cases hx
      have el2 : (wayL w (ks.length - 1)).getD i 0 = (wayL w (ks.length - 1))[i] := by rw [List.getD_eq_getElem?_getD, List.getElem?_eq_getElem hi]; rfl
      rw [el2]
      have hpm : (wayL w (ks.length - 1))[i] ∈ wayL w (ks.length - 1) := List.getElem_mem hi
      rw [← List.take_append_getElem hi, List.filter_append]
      generalize (wayL w (ks.length - 1))[i] = p at *
      have et3 : H3 t = some (.tup (ks.map V.int)) := ac.e _ _ et2 (fun ps z => nomatch z)
      have pu : PuOk H3 t w ks p := ⟨hw, ⟨.inr et3, h12, hp.row.2.2⟩, hp.fl, hp.nd, h1, hpm⟩
      refine ⟨rfl, _, rfl, _, rfl, _, rfl, rfl, rfl, t, w, p, ks, rfl, pu, ac.t, fun H4 q4 e4 t4 fnd => ?_⟩
      have ac4 := ac.ext e4 t4
      rcases fnd with ⟨c, hb, dy, g⟩ | ⟨hb, dy, t0, g, g0⟩
      · have hf : freeB w ks p = false := decide_eq_false (by rw [hb]; intro z; cases z)
        refine ⟨_, _, .ref A.CY, .ref A.CU, false, rfl, .own A.CU, .base (.ins g T.cTY T.kaY T.knY T.ktkY T.kmY), T.kiU_CY, _, rfl, iteF ?_⟩
        rw [List.filter_cons_of_neg (by rw [hf]; exact Bool.false_ne_true), List.filter_nil, List.append_nil]
        exact ac4
      · have hf : freeB w ks p = true := decide_eq_true hb
        refine ⟨_, _, .ref A.CU, .ref A.CU, true, rfl, .own A.CU, .base (.ins g T.cTU T.kaU T.knU T.ktkU T.kmU), (by unfold PySem.W.kitOne; rw [if_pos (by simp)]), _, rfl, iteT ⟨_, rfl, ?_⟩⟩
        rw [List.filter_cons_of_pos hf, List.filter_nil, vi_app]
        refine ⟨_, ac4.a, small1000 ?_, ac4.push⟩
        have := List.length_filter_le (freeB w ks) ((wayL w (ks.length - 1)).take i)
        rw [List.length_take] at this
        rw [vi_len]
        omega
    · intro H3 ac
      rw [vi_len, List.take_length] at ac
      exact q H3 D ((extN_of s12).trans ac.e) ac.t ac.a
theorem klp (T : Tx K mg A) : ∃ mv : List Value, KBn K A.d_last_places ["row", "arms"] 1 ["arms"] (fun us ws => us ++ (mv ++ ws)) (fun vs zs => vs ++ zs) := by
  obtain ⟨mv, h⟩ := T.F_last_places.kbinds0 (ps := ["row", "arms"]) 1 ["arms"] [] (fun us mv ws => us ++ (mv ++ ws)) (by simp) (by simp) (fun r1 r2 r3 => r1.append (r2.append r3))
    (fun D doc pm an cdv ct us mv ws h1 h2 h3 => by
      match us, mv, ws, h1, h2, h3 with
      | [a], [], [e], _, _, _ => rfl)
  exact ⟨mv, h⟩

end
end Tw

set_option Elab.async false
set_option linter.all false
set_option maxRecDepth 100000
set_option maxHeartbeats 2000000
namespace Tw
open PySem PySem.Spec PyProof.Rows L2
section
variable {P : Program} {w : World} {K : PySem.W.Frag} {mg : Str → Option Value} {base : Heap} {A : Ad}
open LamX (ExtN Tabs TabS)
theorem b_lup (T : Tx K mg A) : L2.Binds K A.d__law_up ["row", "wide", "place"] [] := T.F__law_up.binds fun _ _ _ _ _ _ us hl => match us, hl with | [_, _, _], _ => rfl
theorem b_lpar (T : Tx K mg A) : L2.Binds K A.d__law_parent ["wide", "place"] [] := T.F__law_parent.binds fun _ _ _ _ _ _ us hl => match us, hl with | [_, _], _ => rfl
def spLPar : Sp := fun vs H Q _ => ∃ (w i : Nat), vs = [.int w, .int i] ∧ (1 ≤ w ∧ w ≤ 4) ∧ 1 ≤ i ∧ Q (.int ((i - 1) / w : Nat)) H
theorem ok_lpar (T : Tx K mg A) : FnOk P w K mg base CX0 2 A.f__law_parent A.d__law_parent ["wide", "place"] spLPar := by
  refine T.F__law_parent.ok sc__law_parent (fun vs H Q E h => ?_) (fun cdv B outer s H vs Q E hr h => ?_)
  · obtain ⟨w, i, rfl, _⟩ := h
    rfl
  · obtain ⟨w, i, rfl, hw, hi, q⟩ := h
    refine ⟨_, pss_one (ps_ret (pe_op op_fdivN (pe_callTy call_int1 (by rfl) T.g_int (by decide +kernel) (pa_cons (pe_op op_sub (pv 1) pe_int) pa_nil)) (pv 0))), ?_⟩
    refine ⟨_, rfl, _, _, rfl, rfl, .inl ⟨_, rfl, _, rfl, _, _, rfl, rfl, ⟨by omega, by omega⟩, ?_⟩⟩
    have e : Int.fdiv ((i : Int) - 1) (w : Int) = ((i - 1) / w : Nat) := by
      rw [Int.fdiv_eq_ediv_of_nonneg _ (by omega), show ((i : Int) - 1) = ((i - 1 : Nat) : Int) by omega]
      rfl
    show Q (V.int (Int.fdiv ((i : Int) - 1) (w : Int))) H
    rw [e]
    exact q
def DueAt (H : Hp) (d : Addr) (r : List Int × List Nat × Nat) : Prop := ∃ t1 t2 : Addr, H d = some (.tup [.ref t1, .ref t2, .int (r.2.2 : Nat)]) ∧ H t1 = some (.tup (r.1.map V.int)) ∧ H t2 = some (.tup (vi r.2.1))
theorem DueAt.same {H H' : Hp} {d : Addr} {r : List Int × List Nat × Nat} (h : DueAt H d r) (s : Same H H') : DueAt H' d r := let ⟨t1, t2, a, b, c⟩ := h; ⟨t1, t2, s _ _ a, s _ _ b, s _ _ c⟩
/-- (tuple(late), tuple(way), looks) -/
theorem due_out {H' G : Hp} {D W : Addr} {r : List Int × List Nat × Nat} {u1 u2 t : Addr} (n1 : H' u1 = none) (n2 : upd H' u1 (.tup (r.1.map V.int)) u2 = none) (nt : upd (upd H' u1 (.tup (r.1.map V.int))) u2 (.tup (vi r.2.1)) t = none) :
    Same H' (upd (upd (upd H' u1 (.tup (r.1.map V.int))) u2 (.tup (vi r.2.1))) t (.tup [.ref u1, .ref u2, .int (r.2.2 : Nat)])) ∧ DueAt (upd (upd (upd H' u1 (.tup (r.1.map V.int))) u2 (.tup (vi r.2.1))) t (.tup [.ref u1, .ref u2, .int (r.2.2 : Nat)])) t r :=
  ⟨(Same.up n1).trans ((Same.up n2).trans (Same.up nt)), u1, u2, upd_same, (Same.up nt) _ _ ((Same.up n2) _ _ upd_same), (Same.up nt) _ _ upd_same⟩
def spLUp : Sp := fun vs H Q _ => ∃ (r w p : Nat) (ks : List Int), vs = [.ref r, .int w, .int p] ∧ (1 ≤ w ∧ w ≤ 4) ∧ Sq H r (ks.map V.int) ∧ ks.length ≤ 12 ∧ p < ks.length ∧
  ∀ (H' : Hp) (d : Addr), Same H H' → DueAt H' d (goUp w 20 ks p [p] 0) → Q (.ref d) H'
theorem ok_lup (T : Tx K mg A) : FnOk P w K mg base CX0 3 A.f__law_up A.d__law_up ["row", "wide", "place"] spLUp := by
  refine T.F__law_up.ok sc__law_up (fun vs H Q E h => ?_) (fun cdv B outer s H vs Q E hr h => ?_)
  · obtain ⟨r, w, p, ks, rfl, _⟩ := h
    rfl
  · obtain ⟨r, w, p, ks, rfl, hw, hrow, hk12, hp, q⟩ := h
    have nd := sc__law_up.nd
    refine ⟨_, (pss_cons (ps_par3 (i := 3) (j := 4) (l := 5) rfl nd rfl rfl rfl (by decide) (by decide) (by decide) rfl rfl rfl (pa_cons (pe_callTy call_list_of (by rfl) T.g_list (by decide +kernel) (pa_cons (pv 0) pa_nil)) (pa_cons (pe_lst (pa_cons (pv 2) pa_nil)) (pa_cons pe_int pa_nil))) rfl)
      (C8.pss_cut (ps_for PassesOwn.never rfl (pi_range1 rfl T.g_range (pa_cons pe_int pa_nil)) (pg_name (i := 6) nd rfl (Or.inl rfl)) (pss_cons (ps_if (pt_cmpR op_eq (pe_ix ix_list (pv 4) (pe_un un_neg pe_int) (fun _ _ => rfl)) pe_int (nomark _)) (pss_one ps_break) pss_nil)
      (pss_cons (ps_par (i := 7) (j := 8) rfl nd rfl rfl (by decide) rfl rfl (pa_cons (pe_ix ix_list (pv 4) (pe_un un_neg pe_int) (fun _ _ => rfl)) (pa_cons (pe_call (ok_lpar T) (hr.mono (by decide)) (by rfl) T.m__law_parent T.F__law_parent.kp (b_lpar T) .nil pass0 (pa_cons (pv 1) (pa_cons (pe_ix ix_list (pv 4) (pe_un un_neg pe_int) (fun _ _ => rfl)) pa_nil))) pa_nil)) rfl)
      (pss_cons (ps_set (i := 5) nd rfl (Or.inl rfl) (pe_op op_add (pv 5) pe_int))
      (pss_cons (ps_if (pt_not (pt_cmpR op_lt (pe_ix ix_list (pv 3) (pv 7) (fun _ _ => rfl)) (pe_ix ix_list (pv 3) (pv 8) (fun _ _ => rfl)) (nomark _))) (pss_one ps_break) pss_nil)
      (pss_cons (ps_asg (pe_tup (pa_cons (pe_ix ix_list (pv 3) (pv 8) (fun _ _ => rfl)) (pa_cons (pe_ix ix_list (pv 3) (pv 7) (fun _ _ => rfl)) pa_nil))) (pg_tup rfl (pgs_cons (pg_sub (pv 3) (pv 7) set_list) (pgs_cons (pg_sub (pv 3) (pv 8) set_list) pgs_nil))))
      (pss_one (ps_expr (pe_bm PySem.F.plainAttrs_list PySem.F.slot_list_append PySem.F.type_list_append mt_append (pv 4) (pa_cons (pv 8) pa_nil))))))))))
      (pss_one (ps_ret (pe_tup (pa_cons (pe_callTy call_tuple_of (by rfl) T.g_tuple (by decide +kernel) (pa_cons (pv 3) pa_nil)) (pa_cons (pe_callTy call_tuple_of (by rfl) T.g_tuple (by decide +kernel) (pa_cons (pv 4) pa_nil)) (pa_cons (pv 5) pa_nil)))))))), ?_⟩
    refine ⟨_, rfl, r, _, rfl, hrow.len, fun D nD => ⟨_, rfl, by show 1 ≤ sizeLine; decide, fun W nW => ⟨_, _, _, rfl, ?_⟩⟩⟩
    have nDW : D ≠ W := ne_of_none (upd_same (H := H) (a := D)) nW
    have two0 : Two H D W (ks.map V.int) (vi ([] ++ [p])) (upd (upd H D (.lst (ks.map V.int))) W (.lst [V.int (p : Nat)])) :=
      ⟨(Same.up nD).trans (Same.up nW), by rw [upd_ne nDW]; exact upd_same, upd_same, nD, (Same.up nD).free nW, nDW⟩
    generalize upd (upd H D (.lst (ks.map V.int))) W (.lst [V.int (p : Nat)]) = H4 at two0
    refine ⟨fun σ' H' => ∃ (x6 x7 x8 : Option V), σ' = [some (.ref r), some (.int w), some (.int p), some (.ref D), some (.ref W), some (.int ((goUp w 20 ks p [p] 0).2.2 : Nat)), x6, x7, x8] ∧ Two H D W ((goUp w 20 ks p [p] 0).1.map V.int) (vi (goUp w 20 ks p [p] 0).2.1) H', ?_, ?_⟩
    · refine ⟨20, rfl, by decide, by decide, for_range (n := 20) (fun i σ' H' => ∃ (ks' : List Int) (cur : Nat) (way : List Nat) (lk : Nat) (x6 x7 x8 : Option V), σ' = [some (.ref r), some (.int w), some (.int p), some (.ref D), some (.ref W), some (.int lk), x6, x7, x8] ∧ Two H D W (ks'.map V.int) (vi (way ++ [cur])) H' ∧
        cur < ks.length ∧ ks'.length = ks.length ∧ way.length = i ∧ i ≤ 20 ∧ goUp w 20 ks p [p] 0 = goUp w (20 - i) ks' cur (way ++ [cur]) lk) ⟨ks, p, [], 0, none, none, none, rfl, two0, hp, rfl, rfl, by omega, rfl⟩ ?_ ?_⟩
      · rintro i σ' H' hi ⟨ks', cur, way, lk, x6, x7, x8, rfl, two, hcur, hkl, hwl, hi2, eg⟩
        have hlast : atI (vi (way ++ [cur])) (-1) = some (V.int ((cur : Nat) : Int)) := by
          rw [vi_app]
          exact last_at
        refine ⟨_, rfl, _, rfl, W, _, _, _, rfl, rfl, SqL.of two.w, hlast, rfl, _, rfl, ?_⟩
        by_cases h0 : cur = 0
        · rw [decide_eq_true (show V.int (cur : Nat) = V.int 0 by rw [h0]; rfl)]
          refine iteT ?_
          rw [h0, goUp_root] at eg
          rw [eg, ← h0]
          exact ⟨_, _, _, rfl, two⟩
        · rw [decide_eq_false (show ¬ V.int (cur : Nat) = V.int 0 by intro z; injection z with z; omega)]
          refine iteF ?_
          have hlt0 : (cur - 1) / w < cur := Nat.lt_of_le_of_lt (Nat.div_le_self _ _) (by omega)
          refine ⟨_, rfl, _, rfl, W, _, _, _, rfl, rfl, SqL.of two.w, hlast, _, rfl, _, rfl, _, rfl, W, _, _, _, rfl, rfl, SqL.of two.w, hlast, w, cur, rfl, hw, by omega, _, _, rfl, ?_⟩
          have two1 := two
          have hc1 : cur < ks'.length := by omega
          have ef : 20 - i = (20 - (i + 1)) + 1 := by omega
          rw [ef] at eg
          generalize enx : (cur - 1) / w = nx at *
          have hc2 : nx < ks'.length := by omega
          refine ⟨_, rfl, _, _, rfl, rfl, ?_⟩
          refine ⟨_, rfl, _, rfl, D, _, _, _, rfl, rfl, SqL.of two1.d, key_at hc1, _, rfl, _, rfl, D, _, _, _, rfl, rfl, SqL.of two1.d, key_at hc2, _, _, rfl, rfl, _, rfl, ?_⟩
          by_cases hlt : keyAt ks' cur < keyAt ks' nx
          · rw [decide_eq_true hlt]
            refine iteF ?_
            rw [goUp_go h0 (by rw [enx]; exact hlt), enx] at eg
            refine ⟨_, rfl, _, rfl, D, _, _, _, rfl, rfl, SqL.of two1.d, key_at hc2, _, rfl, _, rfl, D, _, _, _, rfl, rfl, SqL.of two1.d, key_at hc1, by show 2 ≤ sizeLine; decide, fun t ht => ?_⟩
            have two2 := two1.same (Same.up (o := .tup [V.int (keyAt ks' nx), V.int (keyAt ks' cur)]) ht)
            have et : upd H' t (.tup [V.int (keyAt ks' nx), V.int (keyAt ks' cur)]) t = some (.tup [V.int (keyAt ks' nx), V.int (keyAt ks' cur)]) := upd_same
            generalize upd H' t (.tup [V.int (keyAt ks' nx), V.int (keyAt ks' cur)]) = G at two2 et
            refine ⟨t, _, rfl, SqT.of et, rfl, _, _, rfl, _, rfl, _, rfl, D, _, _, cur, rfl, rfl, two2.d, ixN_nat (by rw [List.length_map]; exact hc1), ?_⟩
            rw [set_int]
            have two3 : Two H D W ((ks'.set cur (keyAt ks' nx)).map V.int) (vi (way ++ [cur])) (upd G D (.lst ((ks'.set cur (keyAt ks' nx)).map V.int))) := two2.setD
            generalize upd G D (.lst ((ks'.set cur (keyAt ks' nx)).map V.int)) = G2 at two3
            refine ⟨_, _, rfl, _, rfl, _, rfl, D, _, _, nx, rfl, rfl, two3.d, ixN_nat (by rw [List.length_map, List.length_set]; exact hc2), ?_⟩
            rw [set_int, show (ks'.set cur (keyAt ks' nx)).set nx (keyAt ks' cur) = swp ks' cur nx from rfl]
            have two4 : Two H D W ((swp ks' cur nx).map V.int) (vi (way ++ [cur])) (upd G2 D (.lst ((swp ks' cur nx).map V.int))) := two3.setD
            generalize upd G2 D (.lst ((swp ks' cur nx).map V.int)) = G3 at two4
            refine ⟨rfl, _, rfl, .inl ⟨rfl, _, SqL.of two4.w⟩, _, rfl, W, _, _, rfl, rfl, two4.w, small1000 (by rw [vi_len, List.length_append, List.length_singleton]; omega), ?_⟩
            have em : vi (way ++ [cur]) ++ [V.int (nx : Nat)] = vi ((way ++ [cur]) ++ [nx]) := by rw [vi_app (way ++ [cur])]; rfl
            rw [em]
            exact ⟨swp ks' cur nx, nx, way ++ [cur], lk + 1, _, _, _, rfl, two4.setW, by omega, by rw [swp_len]; exact hkl, by rw [List.length_append, hwl]; rfl, by omega, eg⟩
          · rw [decide_eq_false hlt]
            refine iteT ?_
            rw [goUp_stay h0 (by rw [enx]; exact hlt)] at eg
            rw [eg]
            exact ⟨_, _, _, rfl, two1⟩
      · rintro σ' H' ⟨ks', cur, way, lk, x6, x7, x8, rfl, two, hcur, hkl, hwl, hi2, eg⟩
        rw [show goUp w (20 - 20) ks' cur (way ++ [cur]) lk = (ks', way ++ [cur], lk) from rfl] at eg
        rw [eg]
        exact ⟨_, _, _, rfl, two⟩
    · rintro σ' H' ⟨x6, x7, x8, rfl, two⟩
      refine ⟨_, rfl, D, _, rfl, .inl ⟨SqL.of two.d, fun u1 n1 => ⟨_, rfl, W, _, rfl, .inl ⟨SqL.of ((Same.up n1) _ _ two.w), fun u2 n2 => ⟨_, rfl, by show 3 ≤ sizeLine; decide, fun t nt => ?_⟩⟩⟩⟩⟩
      have o := due_out (D := D) (W := W) (G := H') (r := goUp w 20 ks p [p] 0) n1 n2 nt
      exact q _ t (two.s.trans o.1) o.2
end
end Tw

set_option Elab.async false
set_option linter.all false
set_option maxRecDepth 100000
set_option maxHeartbeats 2000000
namespace Tw
open PySem PySem.Spec PyProof.Rows L2
section
variable {P : Program} {w : World} {K : PySem.W.Frag} {mg : Str → Option Value} {base : Heap} {A : Ad}
open LamX (ExtN Tabs TabS)
/-! the law's own: _law_pushed -/
def PaAt (H : Hp) (q : Addr) (r : List Int × Int × Int) : Prop := ∃ t, H q = some (.tup [.ref t, .int r.2.1, .int r.2.2]) ∧ H t = some (.tup (r.1.map V.int))
def spLps : Sp := fun vs H Q _ => ∃ (k w : Nat) (keys : List Int), vs = [.ref k, .int w] ∧ (1 ≤ w ∧ w ≤ 4) ∧ H k = some (.lst (keys.map V.int)) ∧ keys.length ≤ 12 ∧
  ∀ H' q, Same H H' → PaAt H' q (paL w keys keys.length) → Q (.ref q) H'
theorem ok_lps (T : Tx K mg A) : FnOk P w K mg base CX0 8 A.f__law_pushed A.d__law_pushed ["keys", "wide"] spLps := by
  refine T.F__law_pushed.ok sc__law_pushed (fun vs H Q E h => ?_) (fun cdv B outer s H vs Q E hr h => ?_)
  · obtain ⟨k, w, keys, rfl, _⟩ := h
    rfl
  · obtain ⟨k, w, keys, rfl, hw, hk, h12, q⟩ := h
    have nd := sc__law_pushed.nd
    refine ⟨_, PSs.nox (C8.pss_cut (ps_asg (pe_tup (pa_cons (pe_tup pa_nil) (pa_cons pe_int (pa_cons pe_int pa_nil)))) (pg_tup rfl (pgs_cons (pg_name (i := 2) nd rfl (Or.inl rfl)) (pgs_cons (pg_name (i := 3) nd rfl (Or.inl rfl)) (pgs_cons (pg_name (i := 4) nd rfl (Or.inl rfl)) pgs_nil)))))
      (C8.pss_cut (ps_for PassesOwn.never rfl (pi_list (pv 0)) (pg_name (i := 5) nd rfl (Or.inl rfl)) (C8.pss_cut (ps_asg (pe_call (ok_lup T) (hr.mono (by decide)) (by rfl) T.m__law_up T.F__law_up.kp (b_lup T) .nil pass0 (pa_cons (pe_op op_cat (pe_callTy call_list_of (by rfl) T.g_list (by decide +kernel) (pa_cons (pv 2) pa_nil)) (pe_lst (pa_cons (pv 5) pa_nil))) (pa_cons (pv 1) (pa_cons (pe_callB call_len_seq (by rfl) T.g_len PySem.boot_len (pa_cons (pv 2) pa_nil)) pa_nil)))) (pg_tup rfl (pgs_cons (pg_name (i := 2) nd rfl (Or.inl rfl)) (pgs_cons (pg_name (i := 6) nd rfl (Or.inl rfl)) (pgs_cons (pg_name (i := 7) nd rfl (Or.inl rfl)) pgs_nil)))))
      (pss_one (ps_par (i := 3) (j := 4) rfl nd rfl rfl (by decide) rfl rfl (pa_cons (pe_op op_sub (pe_op op_add (pv 3) (pe_callB call_len_seq (by rfl) T.g_len PySem.boot_len (pa_cons (pv 6) pa_nil))) pe_int) (pa_cons (pe_op op_add (pv 4) (pv 7)) pa_nil)) rfl))))
      (pss_one (ps_ret (pe_tup (pa_cons (pv 2) (pa_cons (pv 3) (pa_cons (pv 4) pa_nil)))))))), ?_⟩
    refine ⟨fun σ' H' => ∃ h : Addr, σ' = [some (.ref k), some (.int w), some (.ref h), some (.int 0), some (.int 0), none, none, none] ∧ Same H H' ∧ H' h = some (.tup []), ?_, ?_⟩
    · refine ⟨by show 0 ≤ sizeLine; decide, fun e ne => ⟨by show 3 ≤ sizeLine; decide, fun t nt => ?_⟩⟩
      exact ⟨t, _, rfl, SqT.of upd_same, rfl, _, _, rfl, _, _, rfl, _, _, rfl, rfl, e, rfl, (Same.up ne).trans (Same.up nt), (Same.up nt) _ _ upd_same⟩
    rintro σ' H1 ⟨e, rfl, s1, ee⟩
    refine ⟨fun σ' H' => ∃ (h : Addr) (x5 x6 x7 : Option V), σ' = [some (.ref k), some (.int w), some (.ref h), some (.int (paL w keys keys.length).2.1), some (.int (paL w keys keys.length).2.2), x5, x6, x7] ∧ Same H H' ∧ H' h = some (.tup ((paL w keys keys.length).1.map V.int)), ?_, ?_⟩
    · refine ⟨_, rfl, k, rfl, ⟨_, SqL.of (s1 _ _ hk)⟩, ?_⟩
      refine for_it (walk_list (xs := keys.map V.int)) (fun i σ' H' => ∃ (h : Addr) (x5 x6 x7 : Option V), σ' = [some (.ref k), some (.int w), some (.ref h), some (.int (paL w keys i).2.1), some (.int (paL w keys i).2.2), x5, x6, x7] ∧ Same H H' ∧ H' h = some (.tup ((paL w keys i).1.map V.int)))
        ⟨e, none, none, none, rfl, s1, ee⟩ (fun i σ' H' _ ⟨_, _, _, _, _, s, _⟩ => SqL.of (s _ _ hk)) ?_ ?_
      · rintro i x σ' H3o H3 hi ⟨h, x5, x6, x7, rfl, s3, e3⟩ ⟨rfl, hx⟩
        obtain ⟨hi2, rfl⟩ := ints_at hx
        have hl := pa_len (w := w) h12 (Nat.le_of_lt hi2)
        have e1 : (paL w keys (i + 1)).1 = (pushR (paL w keys i).1 w (keyAt keys i)).1 := rfl
        have e2 : (paL w keys (i + 1)).2.1 = (paL w keys i).2.1 + (((pushR (paL w keys i).1 w (keyAt keys i)).2.1.length : Nat) - 1) := rfl
        have e3' : (paL w keys (i + 1)).2.2 = (paL w keys i).2.2 + ((pushR (paL w keys i).1 w (keyAt keys i)).2.2 : Nat) := rfl
        rw [e1, e2, e3', el_key hi2]
        generalize keyAt keys i = key at *
        refine ⟨fun σ' H' => ∃ (u1 u2 : Addr), σ' = [some (.ref k), some (.int w), some (.ref u1), some (.int (paL w keys i).2.1), some (.int (paL w keys i).2.2), some (.int key), some (.ref u2), some (.int ((pushR (paL w keys i).1 w key).2.2 : Nat))] ∧ Same H H' ∧ H' u1 = some (.tup ((pushR (paL w keys i).1 w key).1.map V.int)) ∧ H' u2 = some (.tup (vi (pushR (paL w keys i).1 w key).2.1)), ?_, ?_⟩
        · refine ⟨_, rfl, h, _, rfl, .inr (SqT.of e3), fun c nc => ?_⟩
          have s4 := Same.up (o := .lst ((paL w keys i).1.map V.int)) nc
          have e4 := upd_same (H := H3) (a := c) (o := .lst ((paL w keys i).1.map V.int))
          have e34 := s4 _ _ e3
          generalize upd H3 c (.lst ((paL w keys i).1.map V.int)) = H4 at s4 e4 e34
          refine ⟨_, rfl, by show 1 ≤ sizeLine; decide, fun f nf => ?_⟩
          have s5 := Same.up (o := .lst [V.int key]) nf
          have e5 := upd_same (H := H4) (a := f) (o := .lst [V.int key])
          have e45 := s5 _ _ e4
          have e35 := s5 _ _ e34
          generalize upd H4 f (.lst [V.int key]) = H5 at s5 e5 e45 e35
          refine ⟨c, f, _, _, rfl, rfl, e45, e5, by rw [List.length_map, List.length_singleton, sizeLine_eq]; omega, fun D nD => ?_⟩
          rw [map_one]
          have s6 := Same.up (o := .lst (((paL w keys i).1 ++ [key]).map V.int)) nD
          have e6 := upd_same (H := H5) (a := D) (o := .lst (((paL w keys i).1 ++ [key]).map V.int))
          have e36 := s6 _ _ e35
          generalize upd H5 D (.lst (((paL w keys i).1 ++ [key]).map V.int)) = H6 at s6 e6 e36
          refine ⟨_, rfl, _, rfl, h, _, rfl, .inr (SqT.of e36), D, w, (paL w keys i).1.length, (paL w keys i).1 ++ [key], by rw [List.length_map]; rfl, hw, .inl e6, by rw [List.length_append, List.length_singleton]; omega, by rw [List.length_append, List.length_singleton]; omega, fun H7 d s7 due => ?_⟩
          obtain ⟨u1, u2, g1, g2, g3⟩ := due
          exact ⟨_, _, rfl, SqT.of g1, rfl, _, _, rfl, _, _, rfl, _, _, rfl, rfl, u1, u2, rfl, s3.trans (s4.trans (s5.trans (s6.trans s7))), g2, g3⟩
        rintro σ' H4 ⟨u1, u2, rfl, s4, g2, g3⟩
        refine ⟨_, rfl, _, rfl, u2, _, rfl, .inr (SqT.of g3), _, _, rfl, rfl, _, _, rfl, rfl, _, rfl, _, rfl, _, _, rfl, rfl, _, _, rfl, u1, some (.int key), some (.ref u2), some (.int ((pushR (paL w keys i).1 w key).2.2 : Nat)), ?_, s4, g2⟩
        show [some (V.ref k), some (V.int w), some (V.ref u1), some (V.int ((paL w keys i).2.1 + ((vi (pushR (paL w keys i).1 w key).2.1).length : Nat) - 1)), some (V.int ((paL w keys i).2.2 + ((pushR (paL w keys i).1 w key).2.2 : Nat))), some (V.int key), some (V.ref u2), some (V.int ((pushR (paL w keys i).1 w key).2.2 : Nat))] = _
        rw [vi_len, show (paL w keys i).2.1 + ((pushR (paL w keys i).1 w key).2.1.length : Nat) - 1 = (paL w keys i).2.1 + (((pushR (paL w keys i).1 w key).2.1.length : Nat) - 1) by omega]
      · rintro σ' H3 ⟨h, x5, x6, x7, rfl, s3, e3⟩
        rw [List.length_map] at e3
        exact ⟨h, x5, x6, x7, by rw [List.length_map], s3, e3⟩
    rintro σ' H3 ⟨h, x5, x6, x7, rfl, s3, e3⟩
    exact ⟨_, rfl, _, rfl, _, rfl, by show 3 ≤ sizeLine; decide, fun t nt => q _ t (s3.trans (Same.up nt)) ⟨h, upd_same, (Same.up nt) _ _ e3⟩⟩
theorem b_lps (T : Tx K mg A) : L2.Binds K A.d__law_pushed ["keys", "wide"] [] := T.F__law_pushed.binds fun _ _ _ _ _ _ us hl => match us, hl with | [_, _], _ => rfl

end
end Tw

set_option Elab.async false
set_option linter.all false
set_option maxRecDepth 100000
set_option maxHeartbeats 2000000
namespace Tw
open PySem PySem.Spec PyProof.Rows L2
section
variable {P : Program} {w : World} {K : PySem.W.Frag} {mg : Str → Option Value} {base : Heap} {A : Ad}
open LamX (ExtN Tabs TabS)
/-- a tuple of keys at an address -/
def RowAt (H : Hp) (v : V) (l : List Int) : Prop := ∃ t, v = .ref t ∧ H t = some (.tup (l.map V.int))
abbrev RowsAt (H : Hp) : List V → List (List Int) → Prop := Paired (RowAt H)
theorem RowsAt.get {H : Hp} : ∀ {xs : List V} {ls : List (List Int)} {i : Nat} {x : V}, RowsAt H xs ls → xs[i]? = some x → ∃ hi : i < ls.length, RowAt H x ls[i]
  | _, _, 0, _, .cons a _, e => ⟨Nat.succ_pos _, by rw [← Option.some.inj e]; exact a⟩
  | _, _, i + 1, _, .cons _ b, e => by
    obtain ⟨hi, r⟩ := RowsAt.get b (by simpa using e)
    exact ⟨Nat.succ_lt_succ hi, r⟩
theorem RowsAt.put {H : Hp} {D : Addr} {xs zs ys : List V} {ls : List (List Int)} (hD : H D = some (.lst zs)) (h : RowsAt H xs ls) : RowsAt (upd H D (.lst ys)) xs ls :=
  L2.Paired.mapP h fun _ _ ⟨t, e, z⟩ => ⟨t, e, by rw [upd_ne (ne_of z hD (by intro q; cases q))]; exact z⟩
theorem b_lhs (T : Tx K mg A) : L2.Binds K A.d__law_heaps ["keys", "wide"] [] := T.F__law_heaps.binds fun _ _ _ _ _ _ us hl => match us, hl with | [_, _], _ => rfl
def lheapB (ns : List Int) (w p : Nat) : Bool := (wayL w p).any fun q => decide (ns.getD p 0 < ns.getD q 0)
def lheap (ns : List Int) (w : Nat) : Bool := (List.range ns.length).all fun p => !lheapB ns w p
theorem par_way (w p : Nat) (hw : 1 ≤ w ∧ w ≤ 4) (hp : p ≤ 12) (h0 : 0 < p) : (p - 1) / w ∈ wayL w p := by
  rw [way_rec w p hw hp h0]
  have h := self_sub w (by omega) ((p - 1) / w) (by have := Nat.div_le_self (p - 1) w; omega) hw.1
  exact List.mem_append_left _ h
theorem lheap_fault (ns : List Int) (w : Nat) (hw : 1 ≤ w ∧ w ≤ 4) (hn : ns.length ≤ 12) : lheap ns w = decide (faultL ns w = []) := by
  by_cases h : faultL ns w = []
  · rw [decide_eq_true h]
    unfold lheap
    refine List.all_eq_true.mpr fun p hp => ?_
    have hp := List.mem_range.mp hp
    have z : lheapB ns w p = false := by
      unfold lheapB
      refine List.any_eq_false.mpr fun q hq => ?_
      have := no_fault hw hn h p hp q hq
      rw [decide_eq_false (by omega)]
      exact Bool.false_ne_true
    rw [z]
    rfl
  · rw [decide_eq_false h]
    obtain ⟨p, hp⟩ := List.exists_mem_of_ne_nil _ h
    unfold faultL at hp
    obtain ⟨h1, h2⟩ := List.mem_filter.mp hp
    unfold faultB at h2
    obtain ⟨h3, h4⟩ := Bool.and_eq_true_iff.mp h2
    have h3 := of_decide_eq_true h3
    unfold lheap
    refine List.all_eq_false.mpr ⟨p, h1, ?_⟩
    have hp12 : p ≤ 12 := by have := List.mem_range.mp h1; omega
    have z : lheapB ns w p = true := by
      unfold lheapB
      exact List.any_eq_true.mpr ⟨_, par_way w p hw hp12 h3, h4⟩
    rw [z]
    exact Bool.false_ne_true
def spLWay : Sp := fun vs H Q _ => ∃ (w i : Nat), vs = [.int w, .int i] ∧ (1 ≤ w ∧ w ≤ 4) ∧ i ≤ 12 ∧ ∀ H' q, Same H H' → H q = none → H' q = some (.lst (vi (wayL w i))) → Q (.ref q) H'
theorem up_head : ∀ w, w < 5 → ∀ p, p < 13 → 1 ≤ w → upL w p = p :: (upL w p).tail := by decide +kernel
theorem ok_lway (T : Tx K mg A) : FnOk P w K mg base CX0 3 A.f__law_way A.d__law_way ["wide", "place"] spLWay := by
  refine T.F__law_way.ok sc__law_way (fun vs H Q E h => ?_) (fun cdv B outer s H vs Q E hr h => ?_)
  · obtain ⟨w, i, rfl, _⟩ := h
    rfl
  · obtain ⟨w, i, rfl, hw, hi, q⟩ := h
    have nd := sc__law_way.nd
    refine ⟨_, pss_cons (ps_set (i := 2) nd rfl (Or.inl rfl) (pe_lst (pa_cons (pv 1) pa_nil)))
      (pss_cons (ps_for PassesOwn.never rfl (pi_range1 rfl T.g_range (pa_cons pe_int pa_nil)) (pg_name (i := 3) nd rfl (Or.inl rfl))
        (pss_cons (ps_if (pt_cmpR op_eq (pe_ix ix_list (pv 2) pe_int (fun _ _ => rfl)) pe_int (nomark _)) (pss_one (ps_ret (pv 2))) pss_nil)
        (pss_one (ps_set (i := 2) nd rfl (Or.inl rfl) (pe_op op_cat (pe_lst (pa_cons (pe_call (ok_lpar T) hr (by rfl) T.m__law_parent T.F__law_parent.kp (b_lpar T) .nil pass0 (pa_cons (pv 0) (pa_cons (pe_ix ix_list (pv 2) pe_int (fun _ _ => rfl)) pa_nil))) pa_nil)) (pv 2))))))
      (pss_one (ps_ret (pv 2)))), ?_⟩
    refine ⟨_, rfl, by show 1 ≤ sizeLine; decide, fun d hd => ?_⟩
    refine ⟨20, rfl, by decide, by decide, for_range (n := 20) (fun k σ H' => ∃ (c : Nat) (L : List Nat) (a : Addr) (z : Option V), σ = [some (.int w), some (.int i), some (.ref a), z] ∧ Same H H' ∧ H a = none ∧ H' a = some (.lst (vi (c :: L))) ∧
      wayL w i = (upL w c).tail.reverse ++ (c :: L) ∧ c + k ≤ 12) ⟨i, [], d, none, rfl, Same.up hd, hd, upd_same, ?_, by omega⟩ ?_ ?_⟩
    · unfold wayL
      have h := up_head w (by omega) i (by omega) hw.1
      rw [h, List.reverse_cons]
      rfl
    · rintro k σ H' hk ⟨c, L, a, z, rfl, s1, a0, ha, eq, hc⟩
      have hat : atI (vi (c :: L)) 0 = some (V.int (c : Nat)) := atI_nat (j := 0) rfl
      refine ⟨_, rfl, a, _, _, _, rfl, rfl, SqL.of ha, hat, rfl, _, rfl, ?_⟩
      by_cases h0 : c = 0
      · rw [decide_eq_true (show V.int (c : Nat) = V.int 0 by rw [h0]; rfl)]
        refine iteT ⟨_, rfl, q _ a s1 a0 ?_⟩
        subst h0
        have e0 := up_eq w (by omega) 0 (by omega) hw.1
        rw [if_pos rfl] at e0
        rw [e0] at eq
        rw [ha, eq]
        rfl
      · rw [decide_eq_false (show ¬ V.int (c : Nat) = V.int 0 by intro z; injection z with z; omega)]
        refine iteF ?_
        have hlt : (c - 1) / w < c := Nat.lt_of_le_of_lt (Nat.div_le_self _ _) (by omega)
        have e1 := up_eq w (by omega) c (by omega) hw.1
        rw [if_neg h0] at e1
        have e2 := up_head w (by omega) ((c - 1) / w) (by omega) hw.1
        have hlen : (c :: L).length ≤ 13 := by
          have h3 := way_len w (by omega) i (by omega) hw.1
          rw [eq, List.length_append] at h3
          omega
        refine ⟨_, rfl, _, rfl, a, _, _, _, rfl, rfl, SqL.of ha, hat, w, c, rfl, hw, by omega, by show 1 ≤ sizeLine; decide, fun a2 ha2 => ?_⟩
        have s2 : Same H' (upd H' a2 (.lst [V.int ((c - 1) / w : Nat)])) := Same.up ha2
        refine ⟨_, rfl, a2, a, _, _, rfl, rfl, upd_same, s2 _ _ ha, ?_, fun a3 ha3 => ?_⟩
        · rw [vi_len]
          exact Nat.le_of_lt (small1000 (by rw [List.length_singleton]; omega))
        · refine ⟨(c - 1) / w, c :: L, a3, _, rfl, s1.trans (s2.trans (Same.up ha3)), (s1.trans s2).free ha3, upd_same, ?_, by omega⟩
          rw [eq, e1, List.tail_cons]
          conv => lhs; rw [e2]
          rw [List.reverse_cons, List.append_assoc]
          rfl
    · rintro σ H' ⟨c, L, a, z, rfl, s1, a0, ha, eq, hc⟩
      omega
theorem b_lway (T : Tx K mg A) : L2.Binds K A.d__law_way ["wide", "place"] [] := T.F__law_way.binds fun _ _ _ _ _ _ us hl => match us, hl with | [_, _], _ => rfl
theorem way_le : ∀ w, w < 5 → ∀ p, p < 13 → 1 ≤ w → ∀ q ∈ wayL w p, q ≤ p := by decide +kernel
def spLIs : Sp := fun vs H Q _ => ∃ (a w : Nat) (ns : List Int), vs = [.ref a, .int w] ∧ (1 ≤ w ∧ w ≤ 4) ∧ RowIn H a ns ∧ ∀ H', Same H H' → Q (.bl (lheap ns w)) H'
theorem ok_lis (T : Tx K mg A) : FnOk P w K mg base CX0 4 A.f__law_is_heap A.d__law_is_heap ["row", "wide"] spLIs := by
  refine T.F__law_is_heap.ok sc__law_is_heap (fun vs H Q E h => ?_) (fun cdv B outer s H vs Q E hr h => ?_)
  · obtain ⟨a, w, ns, rfl, _⟩ := h
    rfl
  · obtain ⟨a, w, ns, rfl, hw, hrow, q⟩ := h
    have nd := sc__law_is_heap.nd
    have hlen := hrow.2.1
    refine ⟨_, pss_cons (ps_for PassesOwn.never rfl (pi_range1 rfl T.g_range (pa_cons (pe_callB call_len_seq (by rfl) T.g_len PySem.boot_len (pa_cons (pv 0) pa_nil)) pa_nil)) (pg_name (i := 2) nd rfl (Or.inr rfl))
      (pss_one (ps_if (pt_val (pe_callB (cr_any rfl) (by rfl) T.g_any (by decide +kernel) (pa_cons
        (pe_lc (own := [("above", 3)]) (g := gName 3) (tt := tYes) rfl nd (pi_list (pe_call (ok_lway T) hr (by rfl) T.m__law_way T.F__law_way.kp (b_lway T) .nil pass0 (pa_cons (pv 1) (pa_cons (pv 2) pa_nil))))
          (blkOk_by (own := [("above", 3)]) (N := ["row", "wide", "place", "above"]) (sc := defScope s__law_is_heap) (by decide +kernel)) (fun _ _ _ _ _ => pg_name (i := 3) nd rfl (Or.inl rfl)) (fun _ _ _ _ _ => pts_nil)
          (fun _ _ _ _ _ => pe_cmpR op_lt (pe_ix (r := rIx K) ix_seq (pv 0) (pv 2) (fun _ _ => rfl)) (pe_ix (r := rIx K) ix_seq (pv 0) (pv 3) (fun _ _ => rfl)) (nomark _))) pa_nil))) (pss_one (ps_ret pe_bl)) pss_nil)))
      (pss_one (ps_ret pe_bl)), ?_⟩
    refine ⟨_, rfl, a, _, rfl, hrow.1.len, _, rfl, by omega, by rw [List.length_map]; omega, ?_⟩
    rw [Int.toNat_natCast, List.length_map]
    refine for_range (n := ns.length) (fun k σ H' => ∃ z u, σ = [some (.ref a), some (.int w), z, u] ∧ Same H H' ∧ ∀ p, p < k → lheapB ns w p = false) ⟨none, none, rfl, Same.refl _, fun p hp => (nomatch hp)⟩ ?_ ?_
    · rintro k σ H' hk ⟨z, u, rfl, s1, hno⟩
      have z0 : V.int ((0 : Int) + (k : Nat)) = V.int (k : Nat) := by rw [Int.zero_add]
      rw [z0]
      refine ⟨_, rfl, _, rfl, w, k, rfl, hw, by omega, fun H2 b s2 b0 hb => ?_⟩
      have hwl := way_len w (by omega) k (by omega) hw.1
      refine ⟨b, rfl, ⟨_, SqL.of hb⟩, fun D hD => ?_⟩
      refine lc_it (walk_list (xs := vi (wayL w k))) (PickI H2 D (wayL w k) fun q => some (V.bl (decide (ns.getD k 0 < ns.getD q 0)))) (pick_start hD) (fun k H' _ h => SqL.of (h.s _ _ hb)) ?_ ?_
      · rintro j x H5 H6 hj pk ⟨rfl, ex⟩
        obtain ⟨hj', rfl⟩ := map_at ex
        have hq : (wayL w k)[j] < ns.length := by
          have h := way_le w (by omega) k (by omega) hw.1 _ (List.getElem_mem hj')
          omega
        have hr6 := (hrow.1.same s1).same (s2.trans pk.s)
        refine ⟨rfl, ?_⟩
        refine iteT (B := PickI H2 D (wayL w k) (fun q => some (V.bl (decide (ns.getD k 0 < ns.getD q 0)))) (j + 1) H6) ?_
        exact ⟨_, rfl, _, rfl, ix_sq hr6 hk ⟨_, rfl, _, rfl, ix_sq hr6 hq ⟨_, _, rfl, rfl, pick_yes hj' (by omega) rfl (Same.refl _) pk⟩⟩⟩
      · intro H5 pk
        have ac := pick_end (vi_len _) pk
        have e : ((wayL w k).filterMap fun q => some (V.bl (decide (ns.getD k 0 < ns.getD q 0)))) = ((wayL w k).map fun q => decide (ns.getD k 0 < ns.getD q 0)).map V.bl := by
          rw [List.filterMap_eq_map', List.map_map]
          rfl
        rw [e] at ac
        refine ⟨D, _, rfl, SqL.of ac.a, _, rfl, ?_⟩
        have ea : ((wayL w k).map fun q => decide (ns.getD k 0 < ns.getD q 0)).any id = lheapB ns w k := by
          rw [List.any_map]
          rfl
        rw [ea]
        have s5 := s1.trans (s2.trans ac.s)
        cases hb2 : lheapB ns w k with
        | true =>
          refine iteT ?_
          have el : lheap ns w = false := by
            unfold lheap
            refine List.all_eq_false.mpr ⟨k, List.mem_range.mpr hk, ?_⟩
            rw [hb2]
            exact Bool.false_ne_true
          rw [el] at q
          exact q _ s5
        | false =>
          refine iteF ⟨_, _, rfl, s5, fun p hp => ?_⟩
          by_cases e2 : p = k
          · rw [e2, hb2]
          · exact hno p (by omega)
    · rintro σ H' ⟨z, u, rfl, s1, hno⟩
      have el : lheap ns w = true := by
        unfold lheap
        refine List.all_eq_true.mpr fun p hp => ?_
        rw [hno p (List.mem_range.mp hp)]
        rfl
      rw [el] at q
      exact q _ s1
theorem b_lis (T : Tx K mg A) : L2.Binds K A.d__law_is_heap ["row", "wide"] [] := T.F__law_is_heap.binds fun _ _ _ _ _ _ us hl => match us, hl with | [_, _], _ => rfl
theorem RowsAt.same {H H' : Hp} {xs : List V} {ls : List (List Int)} (h : RowsAt H xs ls) (s : Same H H') : RowsAt H' xs ls := L2.Paired.mapP h fun _ _ ⟨t, e, z⟩ => ⟨t, e, s _ _ z⟩
theorem RowsAt.push {H : Hp} {x : V} {l : List Int} (hp : RowAt H x l) : ∀ {xs : List V} {ls : List (List Int)}, RowsAt H xs ls → RowsAt H (xs ++ [x]) (ls ++ [l])
  | _, _, .nil => .cons hp .nil
  | _, _, .cons a b => .cons a (RowsAt.push hp b)
structure AccR (H1 : Hp) (D : Addr) (ls : List (List Int)) (H : Hp) : Prop where
  s : Same H1 H
  n : H1 D = Option.none
  a : ∃ xs, H D = some (.lst xs) ∧ RowsAt H xs ls
theorem AccR.start {H1 : Hp} {D : Addr} (n : H1 D = none) : AccR H1 D [] (upd H1 D (.lst [])) := ⟨Same.up n, n, [], upd_same, .nil⟩
theorem AccR.same {H1 H H' : Hp} {D : Addr} {ls : List (List Int)} (h : AccR H1 D ls H) (s : Same H H') : AccR H1 D ls H' := ⟨h.s.trans s, h.n, let ⟨xs, e, z⟩ := h.a; ⟨xs, s _ _ e, z.same s⟩⟩
theorem AccR.push {H1 H : Hp} {D : Addr} {ls : List (List Int)} {x : V} {l : List Int} (h : AccR H1 D ls H) (hp : RowAt H x l) (hl : ls.length < sizeLine) :
    ∃ acc, H D = some (.lst acc) ∧ acc.length < sizeLine ∧ AccR H1 D (ls ++ [l]) (upd H D (.lst (acc ++ [x]))) := by
  obtain ⟨xs, e, z⟩ := h.a
  refine ⟨xs, e, by rw [z.length]; exact hl, fun b o k => ?_, h.n, xs ++ [x], upd_same, (RowsAt.push hp z).put e⟩
  rw [upd_ne (ne_of_none k h.n)]
  exact h.s b o k
theorem insA_len (x : Int) : ∀ l : List Int, (insA x l).length ≤ l.length + 1
  | [] => Nat.le_refl _
  | y :: l => by
    unfold insA
    have := insA_len x l
    split
    · exact Nat.le_refl _
    · split
      · exact Nat.le_succ _
      · simp only [List.length_cons]
        omega
theorem ascL_len : ∀ l : List Int, (ascL l).length ≤ l.length
  | [] => Nat.le_refl _
  | x :: l => by
    have a := ascL_len l
    have b := insA_len x (ascL l)
    show (insA x (ascL l)).length ≤ l.length + 1
    omega
theorem flat_len {α β : Type} (f : α → List β) (c : Nat) : ∀ l : List α, (∀ a ∈ l, (f a).length ≤ c) → (l.flatMap f).length ≤ l.length * c
  | [], _ => by simp
  | a :: l, h => by
    have h1 := h a List.mem_cons_self
    have h2 := flat_len f c l fun b hb => h b (List.mem_cons_of_mem _ hb)
    rw [List.flatMap_cons, List.length_append, List.length_cons, Nat.succ_mul]
    omega
theorem perms_len : ∀ (n : Nat) (l : List Int), l.length ≤ 6 → (permsL n l).length ≤ 6 ^ n
  | 0, _, _ => Nat.le_refl _
  | n + 1, l, h => by
    unfold permsL
    have hf := flat_len (fun x => (permsL n (l.erase x)).map fun s => x :: s) (6 ^ n) (ascL l) fun x hx => by
      rw [List.length_map]
      refine perms_len n _ ?_
      have := List.length_erase_le (a := x) (l := l)
      omega
    have h2 := ascL_len l
    rw [Nat.pow_succ, Nat.mul_comm]
    exact Nat.le_trans hf (Nat.mul_le_mul_right _ (by omega))
theorem heap_faults (r : List Int) (w : Nat) : heapB w r = decide (faultL r w = []) := by
  have e : ∀ p, (decide (p = 0) || decide (r.getD ((p - 1) / w) 0 ≤ r.getD p 0)) = !faultB r w p := fun p => by
    unfold faultB
    by_cases h : p = 0
    · subst h
      simp
    · rw [decide_eq_false h, Bool.false_or, decide_eq_true (show 0 < p by omega), Bool.true_and]
      by_cases c : r.getD p 0 < r.getD ((p - 1) / w) 0
      · rw [decide_eq_true c, decide_eq_false (by omega)]
        rfl
      · rw [decide_eq_false c, decide_eq_true (by omega)]
        rfl
  unfold heapB faultL
  by_cases h : (List.range r.length).filter (faultB r w) = []
  · rw [decide_eq_true h, List.all_eq_true]
    intro p hp
    rw [e]
    rw [List.filter_eq_nil_iff] at h
    have := h p hp
    simpa using this
  · rw [decide_eq_false h]
    cases c : (List.range r.length).all fun c => decide (c = 0) || decide (r.getD ((c - 1) / w) 0 ≤ r.getD c 0) with
    | false => rfl
    | true =>
      exfalso
      refine h (List.filter_eq_nil_iff.mpr fun p hp z => ?_)
      have := List.all_eq_true.mp c p hp
      rw [e, z] at this
      cases this
theorem perms_el : ∀ (n : Nat) (l r : List Int), r ∈ permsL n l → r.length = n
  | 0, _, r, h => by
    rw [List.mem_singleton.mp h]
    rfl
  | n + 1, l, r, h => by
    obtain ⟨x, _, h2⟩ := List.mem_flatMap.mp h
    obtain ⟨t, h3, rfl⟩ := List.mem_map.mp h2
    rw [List.length_cons, perms_el n _ t h3]
theorem b_ll (T : Tx K mg A) : L2.Binds K A.d__law_lists ["keys"] [] := T.F__law_lists.binds fun _ _ _ _ _ _ us hl => match us, hl with | [_], _ => rfl
theorem emp_eqv : ∀ ns : List Int, PyData.eqv (.list (ns.map PyData.int)) (.list []) = decide (ns = [])
  | [] => by rfl
  | n :: ns => by rfl
theorem sorted_one {xs ys : List Int} (hp : xs.Perm ys) (h1 : xs.Pairwise (· ≤ ·)) (h2 : ys.Pairwise (· ≤ ·)) : xs = ys := List.Perm.eq_of_pairwise (fun x y _ _ h1 h2 => Int.le_antisymm h1 h2) h1 h2 hp
theorem asc_nodup {l : List Int} (h : l.Pairwise (· < ·)) : l.Nodup := h.imp fun a => Int.ne_of_lt a
theorem asc_eq {l m : List Int} (h1 : l.Pairwise (· < ·)) (h2 : m.Pairwise (· < ·)) (h : ∀ x, x ∈ l ↔ x ∈ m) : l = m :=
  List.Perm.eq_of_pairwise (fun x y _ _ a b => absurd (Int.lt_trans a b) (Int.lt_irrefl _)) h1 h2 ((List.perm_ext_iff_of_nodup (asc_nodup h1) (asc_nodup h2)).mpr fun x => h x)
theorem ascL_perm {l m : List Int} (h : l.Perm m) : ascL l = ascL m := asc_eq (ascL_asc l) (ascL_asc m) fun x => by rw [ascL_mem, ascL_mem, h.mem_iff]
theorem permsL_perm : ∀ (n : Nat) {l m : List Int}, l.Perm m → permsL n l = permsL n m
  | 0, _, _, _ => rfl
  | n + 1, l, m, h => by
    unfold permsL
    rw [ascL_perm h]
    refine congrArg (fun f => (ascL m).flatMap f) (funext fun x => ?_)
    rw [permsL_perm n (h.erase x)]
def firstB (s : List Int) (j : Nat) : Bool := decide (j = 0) || decide (s.getD (j - 1) 0 ≠ s.getD j 0)
theorem getD_at {s : List Int} {j : Nat} (h : j < s.length) : s.getD j 0 = s[j] := by
  rw [List.getD_eq_getElem?_getD, List.getElem?_eq_getElem h]
  rfl
def ordL (s : List Int) (i : Nat) : List (List Int) := ((List.range i).filter (firstB s)).flatMap fun j => (permsL (s.length - 1) (s.eraseIdx j)).map fun r => s.getD j 0 :: r
theorem srt_le {s : List Int} (hs : s.Pairwise (· ≤ ·)) {i j : Nat} (h : i ≤ j) (hj : j < s.length) : s.getD i 0 ≤ s.getD j 0 := by
  rw [getD_at (by omega), getD_at hj]
  rcases Nat.lt_or_ge i j with c | c
  · exact List.pairwise_iff_getElem.mp hs i j (by omega) hj c
  · have : i = j := by omega
    subst this
    exact Int.le_refl _
theorem first_ex (s : List Int) : ∀ j, j < s.length → ∃ i, i < s.length ∧ firstB s i = true ∧ s.getD i 0 = s.getD j 0
  | 0, h => ⟨0, h, rfl, rfl⟩
  | j + 1, h => by
    by_cases e : s.getD j 0 = s.getD (j + 1) 0
    · obtain ⟨i, h1, h2, h3⟩ := first_ex s j (by omega)
      exact ⟨i, h1, h2, h3.trans e⟩
    · refine ⟨j + 1, h, ?_, rfl⟩
      unfold firstB
      rw [Nat.add_sub_cancel, decide_eq_true e, Bool.or_true]
theorem asc_first {s : List Int} (hs : s.Pairwise (· ≤ ·)) : ascL s = ((List.range s.length).filter (firstB s)).map fun j => s.getD j 0 := by
  refine asc_eq (ascL_asc s) ?_ fun x => ?_
  · rw [List.pairwise_map]
    refine List.Pairwise.imp_of_mem (fun {i j} hi hj h => ?_) (List.Pairwise.filter _ List.pairwise_lt_range)
    have hj2 := List.mem_range.mp (List.mem_filter.mp hj).1
    have f := (List.mem_filter.mp hj).2
    unfold firstB at f
    rw [Bool.or_eq_true, decide_eq_true_eq, decide_eq_true_eq] at f
    have a := srt_le hs (show i ≤ j - 1 by omega) (by omega)
    have b := srt_le hs (show j - 1 ≤ j by omega) hj2
    rcases f with e | e <;> omega
  · rw [ascL_mem, List.mem_map]
    refine ⟨fun h => ?_, fun ⟨j, h1, h2⟩ => ?_⟩
    · obtain ⟨j, hj, e⟩ := List.getElem_of_mem h
      obtain ⟨i, h1, h2, h3⟩ := first_ex s j hj
      exact ⟨i, List.mem_filter.mpr ⟨List.mem_range.mpr h1, h2⟩, by rw [h3, getD_at hj, e]⟩
    · have hj := List.mem_range.mp (List.mem_filter.mp h1).1
      rw [← h2, getD_at hj]
      exact List.getElem_mem hj
theorem at_perm : ∀ (s : List Int) (j : Nat) (h : j < s.length), (s[j] :: s.eraseIdx j).Perm s
  | a :: l, 0, _ => List.Perm.refl _
  | a :: l, j + 1, h => (List.Perm.swap a _ _).trans ((at_perm l j (Nat.lt_of_succ_lt_succ h)).cons a)
theorem ord_end {s : List Int} (hs : s.Pairwise (· ≤ ·)) (hn : s ≠ []) : ordL s s.length = permsL s.length s := by
  have hl := List.length_pos_iff.mpr hn
  obtain ⟨m, hm⟩ : ∃ m, s.length = m + 1 := ⟨s.length - 1, by omega⟩
  unfold ordL
  rw [hm, Nat.add_sub_cancel]
  show _ = (ascL s).flatMap fun x => (permsL m (s.erase x)).map fun r => x :: r
  rw [asc_first hs, List.flatMap_map, hm]
  refine flat_congr _ fun j hj => ?_
  have hj2 : j < s.length := by
    rw [hm]
    exact List.mem_range.mp (List.mem_filter.mp hj).1
  rw [getD_at hj2]
  refine congrArg (List.map _) (permsL_perm m ?_)
  have h1 : (s[j] :: s.eraseIdx j).Perm s := at_perm s j hj2
  have h2 : s.Perm (s[j] :: s.erase s[j]) := List.perm_cons_erase (List.getElem_mem hj2)
  exact (List.perm_cons _).mp (h1.trans h2)
theorem ord_succ (s : List Int) (i : Nat) : ordL s (i + 1) = ordL s i ++ (if firstB s i = true then (permsL (s.length - 1) (s.eraseIdx i)).map fun r => s.getD i 0 :: r else []) := by
  unfold ordL
  rw [List.range_succ, List.filter_append, List.flatMap_append]
  by_cases h : firstB s i = true
  · rw [if_pos h, List.filter_cons_of_pos h]
    simp
  · rw [if_neg h, List.filter_cons_of_neg h]
    simp
theorem ord_len (s : List Int) (h : s.length ≤ 6) : ∀ i, i ≤ s.length → (ordL s i).length ≤ i * 7776
  | 0, _ => by simp [ordL]
  | i + 1, hi => by
    have h1 := ord_len s h i (by omega)
    have h2 : (permsL (s.length - 1) (s.eraseIdx i)).length ≤ 7776 := by
      refine Nat.le_trans (perms_len _ _ (by rw [List.length_eraseIdx]; split <;> omega)) ?_
      have : ∀ k, k < 6 → 6 ^ k ≤ 7776 := by decide
      exact this _ (by omega)
    rw [ord_succ, List.length_append]
    by_cases c : firstB s i = true
    · rw [if_pos c, List.length_map]
      omega
    · rw [if_neg c]
      have : ([] : List (List Int)).length = 0 := rfl
      omega
end
end Tw

set_option Elab.async false
set_option linter.all false
set_option maxRecDepth 100000
set_option maxHeartbeats 2000000
namespace Tw
open PySem PySem.Spec PyProof.Rows L2
section
variable {P : Program} {w : World} {K : PySem.W.Frag} {mg : Str → Option Value} {base : Heap} {A : Ad}
open LamX (ExtN Tabs TabS)
def spLL (n : Nat) : Sp := fun vs H Q _ => ∃ (k : Nat) (ks : List Int), vs = [.ref k] ∧ H k = some (.lst (ks.map V.int)) ∧ ks.length < n ∧ ks.length ≤ 6 ∧
  ∀ (H' : Hp) (q : Addr) (xs : List V), Same H H' → H q = none → H' q = some (.lst xs) → RowsAt H' xs (permsL ks.length ks) → Q (.ref q) H'
theorem era_map : ∀ (l : List Int) (i : Nat), (l.map V.int).eraseIdx i = (l.eraseIdx i).map V.int
  | [], _ => rfl
  | _ :: _, 0 => rfl
  | a :: l, i + 1 => by
    rw [List.map_cons, List.eraseIdx_cons_succ, List.eraseIdx_cons_succ, List.map_cons, era_map l i]
theorem RowsAt.app {H : Hp} : ∀ {xs ys : List V} {ls ms : List (List Int)}, RowsAt H xs ls → RowsAt H ys ms → RowsAt H (xs ++ ys) (ls ++ ms)
  | _, _, _, _, .nil, h => h
  | _, _, _, _, .cons a b, h => .cons a (RowsAt.app b h)
theorem lc_go {n : Nat} {H : Hp} {k q1 r : Addr} {i x : Int} {xs : List V} {ls : List (List Int)} {l : List Int} {Q : VK} (hq : H q1 = some (.lst xs)) (hr : RowsAt H xs ls) (hl : H r = some (.lst (l.map V.int))) (hn : l.length < n) (h6 : l.length ≤ 5) (hls : ls.length ≤ 60000)
    (q : ∀ (H' : Hp) (q2 : Addr) (ys : List V), Same H H' → H q2 = none → H' q2 = some (.lst ys) → RowsAt H' ys (ls ++ (permsL l.length l).map fun z => x :: z) → Q (.ref q2) H') :
    tOp rCat (tVar 1) (tLc (iList K (tCall (spLL n) [] E0 (tCons (tVar 4) tNil))) (gName 5) tYes (tOp (rCatA K) (tTup (tCons (tVar 3) tNil)) (tVar 5)) [5]) [some (.ref k), some (.ref q1), some (.int i), some (.int x), some (.ref r), none] H Q := by
  have hp : (permsL l.length l).length ≤ 7776 := by
    refine Nat.le_trans (perms_len _ _ (by omega)) ?_
    have : ∀ k, k < 6 → 6 ^ k ≤ 7776 := by decide
    exact this _ (by omega)
  refine ⟨_, rfl, _, rfl, r, l, rfl, hl, hn, by omega, fun H1 p ys s1 np ep rp => ?_⟩
  refine ⟨p, rfl, ⟨_, SqL.of ep⟩, fun D nD => ?_⟩
  have hyl : ys.length = (permsL l.length l).length := Paired.length rp
  refine lc_it (walk_list (xs := ys)) (fun j H' => AccR H1 D (((permsL l.length l).take j).map fun z => x :: z) H') (AccR.start nD) (fun j H' _ ac => SqL.of (ac.s _ _ ep)) ?_ ?_
  · rintro j y H2o H2 hj ac ⟨rfl, hy⟩
    obtain ⟨hj2, t, rfl, et⟩ := rp.get hy
    have et2 := ac.s _ _ et
    refine ⟨rfl, iteT (B := AccR H1 D (((permsL l.length l).take (j + 1)).map fun z => x :: z) H2) ?_⟩
    refine ⟨_, rfl, by show 1 ≤ sizeLine; decide, fun u nu => ?_⟩
    have su := Same.up (o := .tup [V.int x]) nu
    have fin : ∀ (c : Addr) (G : Hp), Same H2 G → G c = some (.tup ((x :: (permsL l.length l)[j]).map V.int)) → ∃ acc, G D = some (.lst acc) ∧ acc.length < sizeLine ∧ AccR H1 D (((permsL l.length l).take (j + 1)).map fun z => x :: z) (upd G D (.lst (acc ++ [V.ref c]))) := fun c G s ec => by
      have h := (ac.same s).push (x := .ref c) (l := x :: (permsL l.length l)[j]) ⟨c, rfl, ec⟩ (by rw [List.length_map, List.length_take, sizeLine_eq]; omega)
      rw [← List.take_append_getElem hj2, List.map_append]
      exact h
    have h6j : (permsL l.length l)[j].length ≤ 100 := by
      rw [perms_el _ _ _ (List.getElem_mem hj2)]
      omega
    refine ⟨_, rfl, u, t, _, _, rfl, rfl, SqT.of upd_same, SqT.of (su _ _ et2), Nat.le_of_lt (small1000 (by rw [List.length_map, List.length_singleton]; omega)), fun z => (nomatch z), fun _ z => ?_, fun _ _ c nc => ?_⟩
    · have e0 : (permsL l.length l)[j] = [] := List.map_eq_nil_iff.mp z
      refine fin u _ su ?_
      rw [e0]
      exact upd_same
    · exact fin c _ (su.trans (Same.up nc)) upd_same
  · intro H2 ac
    rw [hyl, List.take_length] at ac
    obtain ⟨zs, ez, rz⟩ := ac.a
    have s12 := s1.trans ac.s
    refine ⟨q1, D, xs, zs, rfl, rfl, s12 _ _ hq, ez, ?_, fun q2 n2 => q _ q2 (xs ++ zs) (s12.trans (Same.up n2)) (s12.free n2) upd_same (RowsAt.same ((hr.same s12).app rz) (Same.up n2))⟩
    have e1 : xs.length = ls.length := Paired.length hr
    have e2 : zs.length = _ := Paired.length rz
    rw [List.length_map] at e2
    rw [sizeLine_eq]
    omega
theorem ok_ll (T : Tx K mg A) : ∀ n, FnOk P w K mg base CX0 (n + 1) A.f__law_lists A.d__law_lists ["keys"] (spLL n)
  | 0 => by
    refine T.F__law_lists.ok sc__law_lists (fun vs H Q E h => ?_) (fun cdv B outer s H vs Q E hr h => ?_)
    · obtain ⟨k, ks, rfl, _⟩ := h
      rfl
    · obtain ⟨k, ks, rfl, _, h, _⟩ := h
      exact absurd h (Nat.not_lt_zero _)
  | n + 1 => by
    have ih := ok_ll T n
    refine T.F__law_lists.ok sc__law_lists (fun vs H Q E h => ?_) (fun cdv B outer s H vs Q E hr h => ?_)
    · obtain ⟨k, ks, rfl, _⟩ := h
      rfl
    · obtain ⟨k, ks, rfl, hk, hlt, h6, q⟩ := h
      have nd := sc__law_lists.nd
      have hu : (B.deeper (envOfC "_law_lists" (defScope s__law_lists) s.heap.objs.size A.f__law_lists cdv)).units + 64 < cLine := by have := hr.un; omega
      refine ⟨_, (pss_cons (ps_if (pt_cmpR (op_eqD hu) (pv 0) (pe_lst pa_nil) (nomark _)) (pss_one (ps_ret (pe_lst (pa_cons (pe_tup pa_nil) pa_nil)))) pss_nil)
      (pss_cons (ps_set (i := 1) nd rfl (Or.inl rfl) (pe_lst pa_nil))
      (C8.pss_cut (ps_for PassesOwn.never rfl (pi_enum (by rfl) T.g_enumerate (pa_cons (pe_callB cr_sortedI (by rfl) T.g_sorted (by decide +kernel) (pa_cons (pv 0) pa_nil)) pa_nil)) (pg_tup rfl (pgs_cons (pg_name (i := 2) nd rfl (Or.inl rfl)) (pgs_cons (pg_name (i := 3) nd rfl (Or.inr rfl)) pgs_nil))) (pss_cons (ps_set (i := 4) nd rfl (Or.inl rfl) (pe_callB cr_sortedI (by rfl) T.g_sorted (by decide +kernel) (pa_cons (pv 0) pa_nil)))
      (pss_cons (ps_expr (pe_bm PySem.F.plainAttrs_list PySem.F.slot_list_pop PySem.F.type_list_pop mt_popAt (pv 4) (pa_cons (pv 2) pa_nil)))
      (pss_one (ps_if (PW.pt (pw_or (pt_cmpR op_eq (pv 2) pe_int (nomark _)) (pw_or1 (pt_cmpR op_ne (pe_ix ix_list (pe_callB cr_sortedI (by rfl) T.g_sorted (by decide +kernel) (pa_cons (pv 0) pa_nil)) (pe_op op_sub (pv 2) pe_int) (fun _ _ => rfl)) (pv 3) (nomark _))))) (pss_one (ps_set (i := 1) nd rfl (Or.inl rfl) (pe_op op_cat (pv 1) (pe_lc (own := [("row", 5)]) (g := gName 5) (tt := tYes) rfl nd (pi_list (pe_call ih hr (by rfl) T.m__law_lists T.F__law_lists.kp (b_ll T) .nil pass0 (pa_cons (pv 4) pa_nil))) (blkOk_by (own := [("row", 5)]) (N := ["keys", "found", "at", "key", "rest", "row"]) (sc := defScope s__law_lists) (by decide +kernel)) (fun _ _ _ _ _ => pg_name (i := 5) nd rfl (Or.inl rfl)) (fun _ _ _ _ _ => pts_nil) (fun _ _ _ _ _ => (pe_op (r := rCatA K) op_catA (pe_tup (pa_cons (pv 3) pa_nil)) (pv 5))))))) pss_nil)))))
      (pss_one (ps_ret (pv 1)))))), ?_⟩
      refine ⟨_, rfl, Nat.zero_le _, fun l0 nl0 => ?_⟩
      have s0 : Same H (upd H l0 (.lst [])) := Same.up nl0
      refine ⟨.list (ks.map .int), .list [], .lst (SqL.of (s0 _ _ hk)) (ints_dp _ _ _), .lst (SqL.of upd_same) .nil, shaped_ints _, rfl, _, rfl, ?_⟩
      rw [emp_eqv]
      by_cases hn : ks = []
      · rw [decide_eq_true hn]
        refine iteT ?_
        refine ⟨Nat.zero_le _, fun e ne => ⟨by show 1 ≤ sizeLine; decide, fun D nD => ?_⟩⟩
        have se := Same.up (o := .tup []) ne
        subst hn
        exact q _ D [.ref e] (s0.trans (se.trans (Same.up nD))) (s0.free (se.free nD)) upd_same (.cons ⟨e, rfl, (Same.up nD) _ _ upd_same⟩ .nil)
      · rw [decide_eq_false hn]
        refine iteF ?_
        refine ⟨Nat.zero_le _, fun D nD => ?_⟩
        have s1 : Same H (upd (upd H l0 (.lst [])) D (.lst [])) := s0.trans (Same.up nD)
        have hnD : H D = none := s0.free nD
        have eD : upd (upd H l0 (.lst [])) D (.lst []) D = some (.lst []) := upd_same
        revert s1 eD
        generalize upd (upd H l0 (.lst [])) D (.lst []) = H1
        intro s1 eD
        refine ⟨fun σ' H' => ∃ (x2 x3 x4 : Option V) (q1 : Addr) (xs : List V), σ' = [some (.ref k), some (.ref q1), x2, x3, x4, none] ∧ Same H H' ∧ H q1 = none ∧ H' q1 = some (.lst xs) ∧ RowsAt H' xs (permsL ks.length ks), ?_, ?_⟩
        · refine ⟨_, rfl, k, ks, rfl, SqL.of (s1 _ _ hk), fun s a perm srt na => ?_⟩
          have sa : Same H1 (upd H1 a (.lst (s.map V.int))) := Same.up na
          have hsl : s.length = ks.length := perm.length_eq
          refine ⟨a, _, rfl, SqL.of upd_same, ?_⟩
          refine for_it (walk_enum (xs := s.map V.int)) (fun i σ' H' => ∃ (x2 x3 x4 : Option V) (q1 : Addr) (xs : List V), σ' = [some (.ref k), some (.ref q1), x2, x3, x4, none] ∧ Same (upd H1 a (.lst (s.map V.int))) H' ∧ H q1 = none ∧ H' q1 = some (.lst xs) ∧ RowsAt H' xs (ordL s i))
            ⟨none, none, none, D, [], rfl, Same.refl _, hnD, sa _ _ eD, .nil⟩ (fun i σ' H' _ ⟨_, _, _, _, _, _, s, _⟩ => SqL.of (s _ _ upd_same)) ?_ ?_
          · rintro i v σ' H2 H3 hi ⟨x2, x3, x4, q1, xs, rfl, s2, nq1, eq1, r1⟩ ⟨T', x, y, rfl, nT, rfl, ex, ey⟩
            obtain ⟨hi', rfl⟩ := ints_at ey
            cases ex
            refine ⟨_, _, rfl, SqT.of upd_same, rfl, ?_⟩
            have s3 : Same H2 (upd H2 T' (.tup [.int (i : Nat), .int s[i]])) := Same.up nT
            have hkH : H2 k = some (.lst (ks.map V.int)) := s2 _ _ (sa _ _ (s1 _ _ hk))
            have e1 := s3 _ _ eq1
            have r3 := r1.same s3
            have hk3 := s3 _ _ hkH
            have s23 := s2.trans s3
            refine ⟨_, _, rfl, _, _, rfl, rfl, ?_⟩
            revert e1 r3 hk3 s23 
            generalize upd H2 T' (.tup [.int (i : Nat), .int s[i]]) = H3
            intro e1 r3 hk3 s23
            refine ⟨_, rfl, k, ks, rfl, SqL.of hk3, fun s' r perm' srt' nr => ?_⟩
            obtain rfl : s' = s := sorted_one (perm'.trans perm.symm) srt' srt
            refine ⟨_, rfl, .inl ⟨rfl, _, SqL.of upd_same⟩, _, rfl, r, _, _, i, V.int s'[i], rfl, rfl, upd_same, by omega, by omega, ?_, ?_, ?_⟩
            · unfold seqIndex?
              rw [List.length_map]
              simp
              omega
            · rw [List.getElem?_map, List.getElem?_eq_getElem hi']
              rfl
            have er : upd (upd H3 r (.lst (s'.map V.int))) r (.lst ((s'.map V.int).eraseIdx i)) r = some (.lst ((s'.eraseIdx i).map V.int)) := by
              rw [upd_same, era_map]
            have s5 : Same H3 (upd (upd H3 r (.lst (s'.map V.int))) r (.lst ((s'.map V.int).eraseIdx i))) := fun b o e => by
              rw [upd_ne (ne_of_none e nr), upd_ne (ne_of_none e nr)]
              exact e
            revert er s5
            generalize upd (upd H3 r (.lst (s'.map V.int))) r (.lst ((s'.map V.int).eraseIdx i)) = H5
            intro er s5
            have hel : (s'.eraseIdx i).length = s'.length - 1 := by
              rw [List.length_eraseIdx, if_pos hi']
            have hol := ord_len s' (by omega) i (by omega)
            have go : ∀ {H6 : Hp} {Q : VK}, Same H5 H6 → firstB s' i = true → (∀ (H' : Hp) (q2 : Addr) (ys : List V), Same H6 H' → H6 q2 = none → H' q2 = some (.lst ys) → RowsAt H' ys (ordL s' (i + 1)) → Q (.ref q2) H') →
                tOp rCat (tVar 1) (tLc (iList K (tCall (spLL n) [] E0 (tCons (tVar 4) tNil))) (gName 5) tYes (tOp (rCatA K) (tTup (tCons (tVar 3) tNil)) (tVar 5)) [5]) [some (.ref k), some (.ref q1), some (.int (i : Nat)), some (.int s'[i]), some (.ref r), none] H6 Q := fun {H6 Q} s6 hf q6 => by
              refine lc_go (s6 _ _ (s5 _ _ e1)) (RowsAt.same (r3.same s5) s6) (s6 _ _ er) (by rw [hel]; omega) (by rw [hel]; omega) (by omega) fun H' q2 ys sx nx ex rx => q6 H' q2 ys sx nx ex ?_
              rw [ord_succ, if_pos hf, ← hel, getD_at hi']
              exact rx
            have s25 := s23.trans s5
            by_cases h0 : i = 0
            · refine ⟨_, rfl, rfl, _, rfl, ?_⟩
              rw [show decide (V.int (i : Nat) = V.int 0) = true from decide_eq_true (by rw [h0]; rfl)]
              refine iteT (iteT (go (Same.refl _) (by unfold firstB; rw [decide_eq_true h0, Bool.true_or]) fun H' q2 ys sx nx ex rx => ?_))
              exact ⟨_, _, _, q2, ys, rfl, s25.trans sx, (s1.trans (sa.trans s25)).free nx, ex, rx⟩
            · refine ⟨_, rfl, rfl, _, rfl, ?_⟩
              rw [show decide (V.int (i : Nat) = V.int 0) = false from decide_eq_false (fun z => h0 (by injection z with z; omega))]
              refine iteF ?_
              refine ⟨_, rfl, k, ks, rfl, SqL.of (s5 _ _ hk3), fun s2' r2 perm2 srt2 nr2 => ?_⟩
              obtain rfl : s2' = s' := sorted_one (perm2.trans perm.symm) srt2 srt
              have s6 : Same H5 (upd H5 r2 (.lst (s2'.map V.int))) := Same.up nr2
              have ev : atI (s2'.map V.int) ((i : Int) - 1) = some (V.int (s2'.getD (i - 1) 0)) := by
                rw [show (i : Int) - 1 = ((i - 1 : Nat) : Int) by omega]
                exact atI_nat (by rw [List.getElem?_map, List.getElem?_eq_getElem (show i - 1 < s2'.length by omega), getD_at (by omega)]; rfl)
              refine ⟨_, rfl, _, _, rfl, rfl, r2, _, _, _, rfl, rfl, SqL.of upd_same, ev, _, rfl, rfl, _, rfl, ?_⟩
              by_cases hf : s2'.getD (i - 1) 0 = s2'[i]
              · rw [show (!decide (V.int (s2'.getD (i - 1) 0) = V.int s2'[i])) = false by rw [hf, decide_eq_true rfl]; rfl]
                refine iteF ⟨_, _, _, q1, xs, rfl, s25.trans s6, nq1, s6 _ _ (s5 _ _ e1), ?_⟩
                have nf : ¬ firstB s2' i = true := by
                  unfold firstB
                  rw [decide_eq_false h0, Bool.false_or, decide_eq_true_eq, getD_at hi', hf]
                  exact fun z => z rfl
                rw [ord_succ, if_neg nf, List.append_nil]
                exact RowsAt.same (r3.same s5) s6
              · rw [show (!decide (V.int (s2'.getD (i - 1) 0) = V.int s2'[i])) = true by rw [decide_eq_false (fun z => hf (by injection z))]; rfl]
                have hy : firstB s2' i = true := by
                  unfold firstB
                  rw [getD_at hi', decide_eq_true hf, Bool.or_true]
                refine iteT (go s6 hy fun H' q2 ys sx nx ex rx => ?_)
                exact ⟨_, _, _, q2, ys, rfl, (s25.trans s6).trans sx, (s1.trans (sa.trans (s25.trans s6))).free nx, ex, rx⟩
          · rintro σ' H2 ⟨x2, x3, x4, q1, xs, rfl, s2, nq1, eq1, r1⟩
            have hs0 : s ≠ [] := fun z => hn (List.length_eq_zero_iff.mp (by rw [← hsl, z]; rfl))
            rw [List.length_map, ord_end srt hs0, hsl, permsL_perm _ perm] at r1
            exact ⟨x2, x3, x4, q1, xs, rfl, s1.trans (sa.trans s2), nq1, eq1, r1⟩
        · rintro σ' H2 ⟨x2, x3, x4, q1, xs, rfl, s2, nq1, eq1, r1⟩
          exact ⟨_, rfl, q H2 q1 xs s2 nq1 eq1 r1⟩
theorem perms_mem : ∀ (n : Nat) (l r : List Int), r ∈ permsL n l → ∀ x ∈ r, x ∈ l
  | 0, _, r, h => fun x hx => by
    rw [List.mem_singleton.mp h] at hx
    cases hx
  | n + 1, l, r, h => fun y hy => by
    obtain ⟨x, hx, h2⟩ := List.mem_flatMap.mp h
    obtain ⟨t, h3, rfl⟩ := List.mem_map.mp h2
    rcases List.mem_cons.mp hy with e | e
    · rw [e]
      exact ascL_mem.mp hx
    · exact List.mem_of_mem_erase (perms_mem n _ t h3 y e)
def spLHs : Sp := fun vs H Q _ => ∃ (k w : Nat) (ks : List Int), vs = [.ref k, .int w] ∧ (1 ≤ w ∧ w ≤ 4) ∧ H k = some (.lst (ks.map V.int)) ∧ ks.length ≤ 6 ∧ (∀ n ∈ ks, -1000000000 ≤ n ∧ n ≤ 1000000000) ∧
  ∀ (H' : Hp) (q : Addr) (xs : List V), Same H H' → H q = none → H' q = some (.lst xs) → RowsAt H' xs (allH ks w) → Q (.ref q) H'
theorem ok_lhs (T : Tx K mg A) : FnOk P w K mg base CX0 10 A.f__law_heaps A.d__law_heaps ["keys", "wide"] spLHs := by
  refine T.F__law_heaps.ok sc__law_heaps (fun vs H Q E h => ?_) (fun cdv B outer s H vs Q E hr h => ?_)
  · obtain ⟨k, w, ks, rfl, _⟩ := h
    rfl
  · obtain ⟨k, w, ks, rfl, hw, hk, h6, hb, q⟩ := h
    have nd := sc__law_heaps.nd
    refine ⟨_, (pss_one (ps_ret (pe_lc (own := [("row", 2)]) (g := gName 2) rfl nd (pi_list (pe_call (ok_ll T 7) (hr.mono (by decide)) (by rfl) T.m__law_lists T.F__law_lists.kp (b_ll T) .nil pass0 (pa_cons (pv 0) pa_nil))) (blkOk_by (own := [("row", 2)]) (N := ["keys", "wide", "row"]) (sc := defScope s__law_heaps) (by decide +kernel)) (fun _ _ _ _ _ => pg_name (i := 2) nd rfl (Or.inl rfl)) (fun _ _ _ _ _ => pts_one (pt_val (pe_call (ok_lis T) (hr.mono (by decide)) (by rfl) T.m__law_is_heap T.F__law_is_heap.kp (b_lis T) .nil pass0 (pa_cons (pv 2) (pa_cons (pv 1) pa_nil))))) (fun _ _ _ _ _ => pv 2)))), ?_⟩
    refine ⟨_, rfl, k, ks, rfl, hk, by omega, h6, fun H1 p ys s1 np ep rp => ?_⟩
    refine ⟨p, rfl, ⟨_, SqL.of ep⟩, fun D nD => ?_⟩
    have hyl : ys.length = (permsL ks.length ks).length := Paired.length rp
    have hp : (permsL ks.length ks).length ≤ 46656 := by
      refine Nat.le_trans (perms_len _ _ h6) ?_
      have : ∀ k, k < 7 → 6 ^ k ≤ 46656 := by decide
      exact this _ (by omega)
    refine lc_it (walk_list (xs := ys)) (fun j H' => AccR H1 D (((permsL ks.length ks).take j).filter fun r => lheap r w) H') (AccR.start nD) (fun j H' _ ac => SqL.of (ac.s _ _ ep)) ?_ ?_
    · rintro j y H2o H2 hj ac ⟨rfl, hy⟩
      obtain ⟨hj2, t, rfl, et⟩ := rp.get hy
      have et2 := ac.s _ _ et
      have hmem := List.getElem_mem hj2
      have hel := perms_el _ _ _ hmem
      refine ⟨rfl, _, rfl, _, rfl, t, w, _, rfl, hw, ⟨.inr et2, by omega, fun x hx => hb x (perms_mem _ _ _ hmem x hx)⟩, fun H3 s3 => ?_⟩
      refine ⟨_, rfl, ?_⟩
      rw [← List.take_append_getElem hj2, List.filter_append]
      have ac3 := ac.same s3
      have hln : (((permsL ks.length ks).take j).filter fun r => lheap r w).length ≤ 46656 := Nat.le_trans (List.length_filter_le _ _) (by rw [List.length_take]; omega)
      by_cases hh : lheap (permsL ks.length ks)[j] w = true
      · rw [hh]
        refine iteT ⟨_, rfl, ?_⟩
        rw [List.filter_cons_of_pos (p := fun r => lheap r w) hh, List.filter_nil]
        exact ac3.push ⟨t, rfl, s3 _ _ et2⟩ (by rw [sizeLine_eq]; omega)
      · rw [Bool.not_eq_true] at hh
        rw [hh]
        refine iteF ?_
        rw [List.filter_cons_of_neg (p := fun r => lheap r w) (by rw [hh]; exact Bool.false_ne_true), List.filter_nil, List.append_nil]
        exact ac3
    · intro H2 ac
      rw [hyl, List.take_length] at ac
      obtain ⟨zs, ez, rz⟩ := ac.a
      have e : (permsL ks.length ks).filter (fun r => lheap r w) = allH ks w := by
        rw [allH_perms]
        refine List.filter_congr fun r hr2 => ?_
        rw [heap_faults, lheap_fault r w hw (by rw [perms_el _ _ _ hr2]; omega)]
      rw [e] at rz
      exact q _ D zs (s1.trans ac.s) (s1.free nD) ez rz
theorem pickI_map (l : List Int) (b : Int → Bool) : (l.filterMap fun z => if b z = true then some (V.int z) else none) = (l.filter b).map V.int := by
  induction l with
  | nil => rfl
  | cons a l ih =>
    by_cases h : b a = true
    · rw [List.filterMap_cons, if_pos h, List.filter_cons_of_pos h, List.map_cons, ih]
    · rw [List.filterMap_cons, if_neg h, List.filter_cons_of_neg h, ih]
theorem q3 : ¬ (("stops" : Str) = "changes") := by decide +kernel
theorem up_wayne (w : Nat) : ∀ f ks p way lk, way ≠ [] → (goUp w f ks p way lk).2.1 ≠ []
  | 0, ks, p, way, lk, h => h
  | f + 1, ks, p, way, lk, h => by
    unfold goUp
    split
    · exact h
    · split
      · exact up_wayne w f _ _ _ _ (by simp)
      · exact h
end
end Tw

set_option Elab.async false
set_option linter.all false
set_option maxRecDepth 100000
set_option maxHeartbeats 2000000
namespace Tw
open PySem PySem.Spec PyProof.Rows L2
section
variable {P : Program} {w : World} {K : PySem.W.Frag} {mg : Str → Option Value} {base : Heap} {A : Ad}
open LamX (ExtN Tabs TabS)
/-! the law's own: _law_ahead -/
def PrK (key : Int) (H : Hp) (x : V) (r : List Int) : Prop := ∃ t u, x = .ref t ∧ H t = some (.tup [.ref u, .int key]) ∧ H u = some (.tup (r.map V.int))
structure AccP (key : Int) (H1 : Hp) (D : Addr) (R : List (List Int)) (H : Hp) : Prop where
  s : Same H1 H
  n : H1 D = Option.none
  a : ∃ xs, H D = some (.lst xs) ∧ Paired (PrK key H) xs R
theorem AccP.same {key : Int} {H1 H H' : Hp} {D : Addr} {R : List (List Int)} (h : AccP key H1 D R H) (s : Same H H') : AccP key H1 D R H' :=
  ⟨h.s.trans s, h.n, let ⟨xs, e, p⟩ := h.a; ⟨xs, s _ _ e, L2.Paired.mapP p fun _ _ ⟨t, u, a, b, c⟩ => ⟨t, u, a, s _ _ b, s _ _ c⟩⟩⟩
theorem paired_snoc {α : Type} {R : V → α → Prop} {x : V} {a : α} (h : R x a) : ∀ {xs : List V} {as : List α}, Paired R xs as → Paired R (xs ++ [x]) (as ++ [a])
  | _, _, .nil => .cons h .nil
  | _, _, .cons b c => .cons b (paired_snoc h c)
theorem AccP.push {key : Int} {H1 H : Hp} {D : Addr} {R : List (List Int)} {x : V} {r : List Int} (h : AccP key H1 D R H) (hp : PrK key H x r) :
    ∃ xs, H D = some (.lst xs) ∧ xs.length = R.length ∧ AccP key H1 D (R ++ [r]) (upd H D (.lst (xs ++ [x]))) := by
  obtain ⟨xs, e, p⟩ := h.a
  refine ⟨xs, e, Paired.length p, fun b o k => ?_, h.n, xs ++ [x], upd_same, ?_⟩
  · rw [upd_ne (ne_of_none k h.n)]
    exact h.s _ _ k
  · refine L2.Paired.mapP (paired_snoc hp p) fun _ _ ⟨t, u, a, b, c⟩ => ⟨t, u, a, ?_, ?_⟩
    · rw [upd_ne (ne_of b e (by intro q; cases q))]
      exact b
    · rw [upd_ne (ne_of c e (by intro q; cases q))]
      exact c
def undB (w : Nat) (ks : List Int) (place : Nat) (r : List Int) : Bool := decide (undP w ks r (keyAt ks place) place)
def aheadL (w : Nat) (ks : List Int) (place : Nat) : List (List Int) := if badL ks.length w ks (belL w ks.length place) = none then [undR w ks place] else []
def spLah : Sp := fun vs H Q _ => ∃ (r w place : Nat) (ks : List Int), vs = [.ref r, .int w, .int place] ∧ (1 ≤ w ∧ w ≤ 4) ∧ H r = some (.lst (ks.map V.int)) ∧ ks.length ≤ 6 ∧ 1 ≤ ks.length ∧ (∀ n ∈ ks, -1000000000 ≤ n ∧ n ≤ 1000000000) ∧ faultL ks w = [] ∧ ks.Nodup ∧ place ∈ wayL w (ks.length - 1) ∧
  ∀ (H' : Hp) (q : Addr), Same H H' → AccP (keyAt ks place) H q (aheadL w ks place) H' → Q (.ref q) H'
theorem ok_lah (T : Tx K mg A) : FnOk P w K mg base CX0 11 A.f__law_ahead A.d__law_ahead ["row", "wide", "place"] spLah := by
  refine T.F__law_ahead.ok sc__law_ahead (fun vs H Q E h => ?_) (fun cdv B outer s H vs Q E hr h => ?_)
  · obtain ⟨r, w, place, ks, rfl, _⟩ := h
    rfl
  · obtain ⟨r, w, place, ks, rfl, hw, er, h6, h1, hb, hf, hnd, hpl, q⟩ := h
    have nd := sc__law_ahead.nd
    have hu := hr.units
    have hpn : place < ks.length := by
      have := way_leA w (by omega) (ks.length - 1) (by omega) hw.1 place hpl
      omega
    obtain ⟨rs, ers⟩ : ∃ rs, rs = ks.filter fun z => z != keyAt ks place := ⟨_, rfl⟩
    have hrs : (keyAt ks place :: rs).Perm ks := by
      rw [ers, ← hnd.erase_eq_filter]
      exact (List.perm_cons_erase (keyAt_mem hpn)).symm
    have hrl : rs.length + 1 = ks.length := by
      have := hrs.length_eq
      rw [List.length_cons] at this
      exact this
    have hah := ahead_is hw (by omega) h1 hf hnd hpl hrs
    refine ⟨_, PSs.nox (C8.pss_cut (ps_par (i := 4) (j := 5) rfl nd rfl rfl (by decide) rfl rfl (pa_cons (pe_ix (r := rIxL K) ix_list (pv 0) (pv 2) (fun _ _ => rfl)) (pa_cons (pe_lc (own := [("one", 3)]) (g := gName 3) rfl nd (pi_list (pv 0)) (blkOk_by (own := [("one", 3)]) (N := ["row", "wide", "place", "one", "key", "rest", "found", "late", "way", "looks"]) (sc := (defScope s__law_ahead)) (by decide +kernel)) (fun _ _ _ _ _ => pg_name (i := 3) nd rfl (Or.inl rfl)) (fun _ _ _ _ _ => pts_one (pt_cmpR op_ne (pv 3) (pe_ix (r := rIxL K) ix_list (pv 0) (pv 2) (fun _ _ => rfl)) (nomark _))) (fun _ _ _ _ _ => (pv 3))) pa_nil)) rfl)
      (pss_cons (ps_set (i := 6) nd rfl (Or.inl rfl) (pe_lst pa_nil))
      (C8.pss_cut (ps_for PassesOwn.never rfl (pi_list (pe_call (ok_lhs T) (hr.mono (by decide)) (by rfl) T.m__law_heaps T.F__law_heaps.kp (b_lhs T) .nil pass0 (pa_cons (pv 5) (pa_cons (pv 1) pa_nil)))) (pg_name (i := 3) nd rfl (Or.inl rfl)) (C8.pss_cut (ps_asg (pe_call (ok_lup T) (hr.mono (by decide)) (by rfl) T.m__law_up T.F__law_up.kp (b_lup T) .nil pass0 (pa_cons (pe_op op_cat (pe_callTy call_list_of (by rfl) T.g_list (by decide +kernel) (pa_cons (pv 3) pa_nil)) (pe_lst (pa_cons (pv 4) pa_nil))) (pa_cons (pv 1) (pa_cons (pe_callB call_len_seq (by rfl) T.g_len PySem.boot_len (pa_cons (pv 3) pa_nil)) pa_nil)))) (pg_tup rfl (pgs_cons (pg_name (i := 7) nd rfl (Or.inl rfl)) (pgs_cons (pg_name (i := 8) nd rfl (Or.inl rfl)) (pgs_cons (pg_name (i := 9) nd rfl (Or.inl rfl)) pgs_nil)))))
      (pss_one (ps_if (PW.pt (pw_and (pt_cmpR (op_eqD hu) (pv 7) (pe_callTy call_tuple_of (by rfl) T.g_tuple (by decide +kernel) (pa_cons (pv 0) pa_nil)) (nomark _)) (pw_and1 (pt_cmpR op_eq (pe_ix (r := rIx K) ix_seq (pv 8) (pe_un un_neg pe_int) (fun _ _ => rfl)) (pv 2) (nomark _))))) (pss_one (ps_expr (pe_bm PySem.F.plainAttrs_list PySem.F.slot_list_append PySem.F.type_list_append mt_append (pv 6) (pa_cons (pe_tup (pa_cons (pv 3) (pa_cons (pv 4) pa_nil))) pa_nil)))) pss_nil))))
      (pss_one (ps_ret (pv 6)))))), ?_⟩
    refine ⟨fun σ' H' => ∃ R : Addr, σ' = [some (.ref r), some (.int w), some (.int place), none, some (.int (keyAt ks place)), some (.ref R), none, none, none, none] ∧ Same H H' ∧ H' R = some (.lst (rs.map V.int)), ?_, ?_⟩
    · refine ⟨_, rfl, _, rfl, r, _, _, _, rfl, rfl, SqL.of er, key_at hpn, ?_⟩
      refine ⟨_, rfl, r, rfl, ⟨_, SqL.of er⟩, fun D nD => ?_⟩
      refine lc_it (walk_list (xs := ks.map V.int)) (PickI H D ks fun z => if (z != keyAt ks place) = true then some (V.int z) else none) (pick_start nD) (fun j H' _ p => SqL.of (p.s _ _ er)) ?_ ?_
      · rintro j x H6 H7 hj pk ⟨rfl, hx⟩
        obtain ⟨hj2, rfl⟩ := map_at hx
        refine ⟨rfl, _, rfl, _, rfl, _, rfl, r, _, _, _, rfl, rfl, SqL.of (pk.s _ _ er), key_at hpn, rfl, _, rfl, ?_⟩
        by_cases h : ks[j] = keyAt ks place
        · refine ite_b (c := false) (by rw [h, decide_eq_true rfl]; rfl) (iteF (pick_no hj2 (by rw [if_neg (by rw [h]; simp)]) (Same.refl _) pk))
        · refine ite_b (c := true) (by rw [decide_eq_false (fun z => h (by injection z))]; rfl) (iteT ⟨_, rfl, pick_yes hj2 (by omega) (by rw [if_pos (by simp [h])]) (Same.refl _) pk⟩)
      · intro G pk
        have aL := pick_end (by rw [List.length_map]) pk
        rw [pickI_map, ← ers] at aL
        exact ⟨_, _, rfl, D, rfl, aL.s, aL.a⟩
    rintro σ' H1 ⟨R, rfl, s1, eR⟩
    refine ⟨Nat.zero_le _, fun D nD => ?_⟩
    have sD := s1.trans (Same.up (o := .lst []) nD)
    have ac0 : AccP (keyAt ks place) H D [] (upd H1 D (.lst [])) := ⟨sD, s1.free nD, [], upd_same, .nil⟩
    have eR1 := (Same.up (o := .lst []) nD) _ _ eR
    generalize upd H1 D (.lst []) = H2 at sD ac0 eR1
    refine ⟨fun σ' H' => ∃ x3 x7 x8 x9 : Option V, σ' = [some (.ref r), some (.int w), some (.int place), x3, some (.int (keyAt ks place)), some (.ref R), some (.ref D), x7, x8, x9] ∧ AccP (keyAt ks place) H D (aheadL w ks place) H', ?_, ?_⟩
    · refine ⟨_, rfl, _, rfl, R, w, rs, rfl, hw, eR1, by omega, fun n hn => hb n (hrs.mem_iff.mp (List.mem_cons_of_mem _ hn)), fun H3 q3 ys s3 n3 e3 r3 => ?_⟩
      have hyl : ys.length = (allH rs w).length := Paired.length r3
      have hq3 : q3 ≠ D := fun z => by
        obtain ⟨x0, e0, _⟩ := ac0.a
        rw [z, e0] at n3
        cases n3
      have hall : (allH rs w).length ≤ 7776 := by
        rw [allH_perms]
        refine Nat.le_trans (List.length_filter_le _ _) (Nat.le_trans (perms_len _ _ (by omega)) ?_)
        have : ∀ k, k < 6 → 6 ^ k ≤ 7776 := by decide
        exact this _ (by omega)
      refine ⟨q3, rfl, ⟨_, SqL.of e3⟩, ?_⟩
      refine for_it (walk_list (xs := ys)) (fun i σ' H' => (∃ x3 x7 x8 x9 : Option V, σ' = [some (.ref r), some (.int w), some (.int place), x3, some (.int (keyAt ks place)), some (.ref R), some (.ref D), x7, x8, x9]) ∧ AccP (keyAt ks place) H D (((allH rs w).take i).filter (undB w ks place)) H' ∧ H' q3 = some (.lst ys) ∧ RowsAt H' ys (allH rs w))
        ⟨⟨none, none, none, none, rfl⟩, ac0.same s3, e3, r3⟩ (fun i σ' H' _ h => SqL.of h.2.2.1) ?_ ?_
      · rintro i x σ' H4o H4 hi ⟨⟨x3, x7, x8, x9, rfl⟩, ac, e4, r4⟩ ⟨rfl, hx⟩
        obtain ⟨hi2, t, rfl, et⟩ := RowsAt.get r4 hx
        have hmem : (allH rs w)[i] ∈ allH rs w := List.getElem_mem hi2
        obtain ⟨hperm, hfl⟩ := (allH_mem hw (by omega)).mp hmem
        rw [← List.take_append_getElem hi2, List.filter_append]
        have hfl' : (((allH rs w).take i).filter (undB w ks place)).length ≤ 1 := by
          have h1 := ((List.take_sublist i (allH rs w)).filter (undB w ks place)).length_le
          rw [show (allH rs w).filter (undB w ks place) = aheadL w ks place from hah] at h1
          refine Nat.le_trans h1 ?_
          unfold aheadL
          split
          · exact Nat.le_refl _
          · exact Nat.zero_le _
        generalize (allH rs w)[i] = bs at *
        have hbl : bs.length + 1 = ks.length := by rw [hperm.length_eq]; exact hrl
        have er4 := ac.s _ _ er
        refine ⟨fun σ' H' => ∃ (u1 u2 : Addr), σ' = [some (.ref r), some (.int w), some (.int place), some (.ref t), some (.int (keyAt ks place)), some (.ref R), some (.ref D), some (.ref u1), some (.ref u2), some (.int ((pushR bs w (keyAt ks place)).2.2 : Nat))] ∧ Same H4 H' ∧ H' u1 = some (.tup ((pushR bs w (keyAt ks place)).1.map V.int)) ∧ H' u2 = some (.tup (vi (pushR bs w (keyAt ks place)).2.1)), ?_, ?_⟩
        · generalize keyAt ks place = key at *
          refine ⟨_, rfl, t, _, rfl, .inr (SqT.of et), fun c nc => ?_⟩
          have s5 := Same.up (o := .lst (bs.map V.int)) nc
          have e5 := upd_same (H := H4) (a := c) (o := .lst (bs.map V.int))
          have et5 := s5 _ _ et
          generalize upd H4 c (.lst (bs.map V.int)) = H5 at s5 e5 et5
          refine ⟨_, rfl, by show 1 ≤ sizeLine; decide, fun f nf => ?_⟩
          have s6 := Same.up (o := .lst [V.int key]) nf
          have e6 := upd_same (H := H5) (a := f) (o := .lst [V.int key])
          have e56 := s6 _ _ e5
          have et6 := s6 _ _ et5
          generalize upd H5 f (.lst [V.int key]) = H6 at s6 e6 e56 et6
          refine ⟨c, f, _, _, rfl, rfl, e56, e6, by rw [List.length_map, List.length_singleton, sizeLine_eq]; omega, fun D2 nD2 => ?_⟩
          rw [map_one]
          have s7 := Same.up (o := .lst ((bs ++ [key]).map V.int)) nD2
          have e7 := upd_same (H := H6) (a := D2) (o := .lst ((bs ++ [key]).map V.int))
          have et7 := s7 _ _ et6
          generalize upd H6 D2 (.lst ((bs ++ [key]).map V.int)) = H7 at s7 e7 et7
          refine ⟨_, rfl, _, rfl, t, _, rfl, .inr (SqT.of et7), D2, w, bs.length, bs ++ [key], by rw [List.length_map]; rfl, hw, .inl e7, by rw [List.length_append, List.length_singleton]; omega, by rw [List.length_append, List.length_singleton]; omega, fun H8 d s8 due => ?_⟩
          obtain ⟨u1, u2, g1, g2, g3⟩ := due
          exact ⟨_, _, rfl, SqT.of g1, rfl, _, _, rfl, _, _, rfl, _, _, rfl, rfl, u1, u2, rfl, s5.trans (s6.trans (s7.trans s8)), g2, g3⟩
        rintro σ' H5 ⟨u1, u2, rfl, s5, g2, g3⟩
        have ac5 := ac.same s5
        have e45 := s5 _ _ e4
        have r45 := r4.same s5
        have et5 := s5 _ _ et
        refine ⟨_, rfl, _, rfl, r, _, rfl, .inl ⟨SqL.of (s5 _ _ er4), fun t2 nt2 => ?_⟩⟩
        have s6 := Same.up (o := .tup (ks.map V.int)) nt2
        refine ⟨_, _, ints_tup K (s6 _ _ g2), ints_tup K upd_same, ints_shT _, ints_shT _, _, rfl, ?_⟩
        rw [ints_eqv]
        have ac6 := ac5.same s6
        have e46 := s6 _ _ e45
        have r46 := r45.same s6
        have et6 := s6 _ _ et5
        have g36 := s6 _ _ g3
        generalize upd H5 t2 (.tup (ks.map V.int)) = H6 at ac6 e46 r46 et6 g36
        by_cases h4 : (pushR bs w (keyAt ks place)).1 = ks
        case neg =>
          rw [decide_eq_false h4]
          refine iteF (iteF ⟨⟨_, _, _, _, rfl⟩, ?_, e46, r46⟩)
          rw [List.filter_cons_of_neg (by rw [show undB w ks place bs = false from decide_eq_false fun z => h4 z.2.2.1]; exact Bool.false_ne_true), List.filter_nil, List.append_nil]
          exact ac6
        rw [decide_eq_true h4]
        have hwn : (pushR bs w (keyAt ks place)).2.1 ≠ [] := up_wayne w _ _ _ _ _ (by simp)
        refine iteT ⟨_, rfl, _, rfl, .inr (.inl ⟨u2, _, _, _, rfl, rfl, SqT.of g36, (by rw [vi_wz]; exact last_wz hwn), _, rfl, rfl, _, rfl, ?_⟩)⟩
        rw [int_deq]
        by_cases h5 : lastW (pushR bs w (keyAt ks place)).2.1 = place
        case neg =>
          rw [decide_eq_false (show ¬ (((lastW (pushR bs w (keyAt ks place)).2.1 : Nat) : Int) = (place : Int)) from fun z => h5 (Int.ofNat.inj z))]
          refine iteF ⟨⟨_, _, _, _, rfl⟩, ?_, e46, r46⟩
          rw [List.filter_cons_of_neg (by rw [show undB w ks place bs = false from decide_eq_false fun z => h5 z.2.2.2]; exact Bool.false_ne_true), List.filter_nil, List.append_nil]
          exact ac6
        rw [decide_eq_true (show (((lastW (pushR bs w (keyAt ks place)).2.1 : Nat) : Int) = (place : Int)) by rw [h5])]
        have hub : undB w ks place bs = true := decide_eq_true ⟨hbl, hfl, h4, h5⟩
        rw [List.filter_cons_of_pos hub, List.filter_nil]
        obtain ⟨xs0, ex0, _⟩ := ac6.a
        refine iteT ⟨_, rfl, .inl ⟨rfl, _, SqL.of ex0⟩, _, rfl, _, rfl, by show 2 ≤ sizeLine; decide, fun p np => ?_⟩
        have s7 := Same.up (o := .tup [V.ref t, V.int (keyAt ks place)]) np
        obtain ⟨xs, ex, hxl, ac7⟩ := (ac6.same s7).push (x := .ref p) (r := bs) ⟨p, t, rfl, upd_same, s7 _ _ et6⟩
        refine ⟨D, xs, _, rfl, rfl, ex, small1000 (by omega), ⟨_, _, _, _, rfl⟩, ac7, ?_, ?_⟩
        · rw [upd_ne hq3]
          exact s7 _ _ e46
        · exact RowsAt.put ex (r46.same s7)
      · rintro σ' H4 ⟨⟨x3, x7, x8, x9, rfl⟩, ac, _, _⟩
        rw [hyl, List.take_length] at ac
        refine ⟨x3, x7, x8, x9, rfl, ?_⟩
        rw [show aheadL w ks place = (allH rs w).filter (undB w ks place) from hah.symm]
        exact ac
    rintro σ' H4 ⟨x3, x7, x8, x9, rfl, ac⟩
    exact ⟨_, rfl, q _ D ac.s ac⟩
theorem b_lah (T : Tx K mg A) : L2.Binds K A.d__law_ahead ["row", "wide", "place"] [] := T.F__law_ahead.binds fun _ _ _ _ _ _ us hl => match us, hl with | [_, _, _], _ => rfl

end
end Tw

set_option Elab.async false
set_option linter.all false
set_option maxRecDepth 100000
set_option maxHeartbeats 2000000
namespace Tw
open PySem PySem.Spec PyProof.Rows L2
section
variable {P : Program} {w : World} {K : PySem.W.Frag} {mg : Str → Option Value} {base : Heap} {A : Ad}
open LamX (ExtN Tabs TabS)
theorem b_lkid (T : Tx K mg A) : L2.Binds K A.d__law_children ["wide", "many", "place"] [] := T.F__law_children.binds fun _ _ _ _ _ _ us hl => match us, hl with | [_, _, _], _ => rfl
theorem fdU_key (v0 v1 : V) : (fdU v0 v1).lookup ("key" : Str) = some v1 := by
  unfold fdU
  rw [lookup_putF, if_pos rfl]
theorem fdU_row (v0 v1 : V) : (fdU v0 v1).lookup ("row" : Str) = some v0 := by
  unfold fdU
  rw [lookup_putF, if_neg (by decide +kernel), lookup_putF, if_pos rfl]
theorem fdY_other (v0 v1 : V) : (fdY v0 v1).lookup ("other" : Str) = some v1 := by
  unfold fdY
  rw [lookup_putF, if_pos rfl]
theorem fdY_place (v0 v1 : V) : (fdY v0 v1).lookup ("place" : Str) = some v0 := by
  unfold fdY
  rw [lookup_putF, if_neg (by decide +kernel), lookup_putF, if_pos rfl]
theorem ints_eqvL (a b : List Int) : PyData.eqv (.list (a.map PyData.int)) (.list (b.map PyData.int)) = decide (a = b) := by
  rw [← ints_all]
  simp [PyData.eqv]
theorem kush (T : Tx K mg A) : ∃ mv : List Value, KBn K A.d_u_shows ["self", "row", "place", "arms"] 3 ["arms"] (fun us ws => us ++ (mv ++ ws)) (fun vs zs => vs ++ zs) := by
  obtain ⟨mv, h⟩ := T.F_u_shows.kbinds0 (ps := ["self", "row", "place", "arms"]) 3 ["arms"] [] (fun us mv ws => us ++ (mv ++ ws)) (by simp) (by simp) (fun r1 r2 r3 => r1.append (r2.append r3))
    (fun D doc pm an cdv ct us mv ws h1 h2 h3 => by
      match us, mv, ws, h1, h2, h3 with
      | [a, b, c], [], [e], _, _, _ => rfl)
  exact ⟨mv, h⟩
theorem kysh (T : Tx K mg A) : ∃ mv : List Value, KBn K A.d_y_shows ["self", "row", "place", "arms"] 3 ["arms"] (fun us ws => us ++ (mv ++ ws)) (fun vs zs => vs ++ zs) := by
  obtain ⟨mv, h⟩ := T.F_y_shows.kbinds0 (ps := ["self", "row", "place", "arms"]) 3 ["arms"] [] (fun us mv ws => us ++ (mv ++ ws)) (by simp) (by simp) (fun r1 r2 r3 => r1.append (r2.append r3))
    (fun D doc pm an cdv ct us mv ws h1 h2 h3 => by
      match us, mv, ws, h1, h2, h3 with
      | [a, b, c], [], [e], _, _, _ => rfl)
  exact ⟨mv, h⟩
theorem kid_pick (n w i : Nat) : vi (kidL n w i) = (List.range (n - 1)).filterMap fun j => if j / w = i then some (V.int ((j + 1 : Nat) : Int)) else none := by
  unfold vi kidL
  induction List.range (n - 1) with
  | nil => rfl
  | cons a l ih =>
    by_cases h : a / w = i
    · rw [List.filter_cons_of_pos (by simp [h]), List.map_cons, List.map_cons, ih, List.filterMap_cons, if_pos h]
    · rw [List.filter_cons_of_neg (by simp [h]), ih, List.filterMap_cons, if_neg h]
def spLKid : Sp := fun vs H Q _ => ∃ (w n i : Nat), vs = [.int w, .int n, .int i] ∧ (1 ≤ w ∧ w ≤ 4) ∧ n ≤ 12 ∧ i < n ∧ ∀ H' q, Same H H' → H q = none → H' q = some (.lst (vi (kidL n w i))) → Q (.ref q) H'
theorem ok_lkid (T : Tx K mg A) : FnOk P w K mg base CX0 3 A.f__law_children A.d__law_children ["wide", "many", "place"] spLKid := by
  refine T.F__law_children.ok sc__law_children (fun vs H Q E h => ?_) (fun cdv B outer s H vs Q E hr h => ?_)
  · obtain ⟨w, n, i, rfl, _⟩ := h
    rfl
  · obtain ⟨w, n, i, rfl, hw, hn, hi, q⟩ := h
    have nd := sc__law_children.nd
    refine ⟨_, pss_one (ps_ret (pe_lc (own := [("other", 3)]) (g := gName 3) rfl nd (pi_range2 rfl T.g_range (pa_cons pe_int (pa_cons (pv 1) pa_nil))) (blkOk_by (own := [("other", 3)]) (N := ["wide", "many", "place", "other"]) (sc := defScope s__law_children) (by decide +kernel))
      (fun _ _ _ _ _ => pg_name (i := 3) nd rfl (Or.inl rfl))
      (fun _ _ _ _ _ => pts_one (pt_cmpR op_eq (pe_call (ok_lpar T) hr (by rfl) T.m__law_parent T.F__law_parent.kp (b_lpar T) .nil pass0 (pa_cons (pv 0) (pa_cons (pv 3) pa_nil))) (pv 2) (nomark _))) (fun _ _ _ _ _ => pv 3))), ?_⟩
    refine ⟨_, rfl, _, _, rfl, ⟨by omega, by omega, by omega, by omega⟩, fun D hD => ?_⟩
    rw [show ((n : Int) - 1).toNat = n - 1 by omega]
    refine lc_it (walk_range (lo := 1) (n := n - 1)) (PickI H D (List.range (n - 1)) fun j => if j / w = i then some (V.int ((j + 1 : Nat) : Int)) else none) (pick_start hD) (fun k H' _ h => trivial) ?_ ?_
    · rintro k x H2 H3 hk pk ⟨rfl, ex⟩
      have ex2 : x = V.int ((k + 1 : Nat) : Int) := ex.trans (by show V.int (1 + (k : Int)) = _; rw [show (1 + (k : Int)) = ((k + 1 : Nat) : Int) by omega])
      subst ex2
      have hk' : k < (List.range (n - 1)).length := by rw [List.length_range]; exact hk
      refine ⟨rfl, _, rfl, _, rfl, w, k + 1, rfl, hw, by omega, _, rfl, rfl, _, rfl, ?_⟩
      rw [show k + 1 - 1 = k by omega]
      by_cases hm : k / w = i
      · rw [decide_eq_true (show V.int ((k / w : Nat) : Int) = V.int (i : Nat) by rw [hm])]
        exact iteT ⟨_, rfl, pick_yes hk' (by rw [List.length_range]; omega) (by rw [List.getElem_range, if_pos hm]) (Same.refl _) pk⟩
      · rw [decide_eq_false (show ¬ V.int ((k / w : Nat) : Int) = V.int (i : Nat) from fun z => hm (by injection z with z; exact Int.ofNat.inj z))]
        exact iteF (pick_no hk' (by rw [List.getElem_range, if_neg hm]) (Same.refl _) pk)
    · intro H2 pk
      have ac := pick_end (by rw [List.length_range]) pk
      refine q _ D ac.s hD ?_
      rw [ac.a, kid_pick]
theorem kb_ish (T : Tx K mg A) : ∃ mv : List Value, KBn K A.d_is_heap ["row", "arms"] 1 ["arms"] (fun us ws => us ++ (mv ++ ws)) (fun vs zs => vs ++ zs) := by
  obtain ⟨mv, h⟩ := T.F_is_heap.kbinds0 (ps := ["row", "arms"]) 1 ["arms"] [] (fun us mv ws => us ++ (mv ++ ws)) (by simp) (by simp) (fun r1 r2 r3 => r1.append (r2.append r3))
    (fun D doc pm an cdv ct us mv ws h1 h2 h3 => by
      match us, mv, ws, h1, h2, h3 with
      | [a], [], [c], _, _, _ => rfl)
  exact ⟨mv, h⟩
theorem kih (T : Tx K mg A) : ∃ mv : List Value, KBn K A.d_is_heap ["row", "arms"] 1 ["arms"] (fun us ws => us ++ (mv ++ ws)) (fun vs zs => vs ++ zs) := by
  obtain ⟨mv, h⟩ := T.F_is_heap.kbinds0 (ps := ["row", "arms"]) 1 ["arms"] [] (fun us mv ws => us ++ (mv ++ ws)) (by simp) (by simp) (fun r1 r2 r3 => r1.append (r2.append r3))
    (fun D doc pm an cdv ct us mv ws h1 h2 h3 => by
      match us, mv, ws, h1, h2, h3 with
      | [a], [], [c], _, _, _ => rfl)
  exact ⟨mv, h⟩
def spIsH : Sp := fun vs H Q _ => ∃ (a w : Nat) (ns : List Int), vs = [.ref a, .int w] ∧ (1 ≤ w ∧ w ≤ 4) ∧ RowIn H a ns ∧ ∀ H', Same H H' → Q (.bl (decide (faultL ns w = []))) H'
theorem ok_ish (T : Tx K mg A) : FnOk P w K mg base CX0 8 A.f_is_heap A.d_is_heap ["row", "arms"] spIsH := by
  obtain ⟨mo, ko⟩ := kb_fau T
  refine T.F_is_heap.ok sc_is_heap (fun vs H Q E h => ?_) (fun cdv B outer s H vs Q E hr h => ?_)
  · obtain ⟨a, w, ns, rfl, _⟩ := h
    rfl
  · obtain ⟨a, w, ns, rfl, hw, hrow, q⟩ := h
    refine ⟨_, PSs.nox (pss_one (ps_ret (pe_notT (pe_callN (ok_fau T) hr (by rfl) T.m_faults T.F_faults.kp ko pass0 (pa_cons (pv 0) pa_nil) (pk_cons (pv 1) pk_nil))))), ?_⟩
    refine ⟨_, rfl, _, rfl, rfl, rfl, a, w, ns, rfl, hw, hrow, fun H1 r s1 r0 hr1 => ?_⟩
    refine ⟨!(vi (faultL ns w)).isEmpty, .inl ⟨_, SqL.of hr1, rfl⟩, ?_⟩
    have e : (!(!(vi (faultL ns w)).isEmpty)) = decide (faultL ns w = []) := by
      rw [Bool.not_not]
      unfold vi
      cases faultL ns w with
      | nil => rfl
      | cons x l => rfl
    rw [e]
    exact q _ s1
def spUsh (A : Ad) : Sp := fun vs H Q _ => ∃ (o r w place : Nat) (key : Int) (ks bs : List Int), vs = [.ref o, .ref r, .int place, .int w] ∧ AtU A.CU H o bs key ∧ bs.length ≤ 12 ∧ (∀ z ∈ bs, -1000000000 ≤ z ∧ z ≤ 1000000000) ∧ (-1000000000 ≤ key ∧ key ≤ 1000000000) ∧ PuOk H r w ks place ∧
  ∀ H', Same H H' → Q (.bl (decide (undP w ks bs key place))) H'
theorem ok_ush (T : Tx K mg A) : FnOk P w K mg base CX0 12 A.f_u_shows A.d_u_shows ["self", "row", "place", "arms"] (spUsh A) := by
  obtain ⟨mh, kih⟩ := kb_ish T
  obtain ⟨mp, kp⟩ := kb_push T
  refine T.F_u_shows.ok sc_u_shows (fun vs H Q E h => ?_) (fun cdv B outer s H vs Q E hr h => ?_)
  · obtain ⟨o, r, w, place, key, ks, bs, rfl, _⟩ := h
    rfl
  · obtain ⟨o, r, w, place, key, ks, bs, rfl, ⟨dx, t0, g, e0⟩, hbl, hbb, hkb, h, q⟩ := h
    have nd := sc_u_shows.nd
    have hu := hr.units
    have hw := h.hw
    have h1k := h.h1
    refine ⟨_, PSs.nox (pss_cons (ps_asg (pe_call (ok_bel T) (hr.mono (by decide)) (by rfl) T.m_heap_and_way_below T.F_heap_and_way_below.kp (b_bel T) .nil pass0 (pa_cons (pv 1) (pa_cons (pv 2) (pa_cons (pv 3) pa_nil)))) (pg_tup rfl (pgs_cons (pg_name (i := 4) nd rfl (Or.inl rfl)) (pgs_cons (pg_name (i := 5) nd rfl (Or.inl rfl)) pgs_nil))))
      (pss_cons (ps_if (PW.pt (pw_or (pt_cmpR op_ne (pe_callB call_len_seq (by rfl) T.g_len PySem.boot_len (pa_cons (pe_fld (pv 0) rfl) pa_nil)) (pe_op op_sub (pe_callB call_len_seq (by rfl) T.g_len PySem.boot_len (pa_cons (pv 4) pa_nil)) pe_int) (nomark _)) (pw_or1 (pt_not (pt_val (pe_callN (ok_ish T) (hr.mono (by decide)) (by rfl) T.m_is_heap T.F_is_heap.kp kih pass0 (pa_cons (pe_fld (pv 0) rfl) pa_nil) (pk_cons (pv 3) pk_nil))))))) (pss_one (ps_ret pe_bl)) pss_nil)
      (pss_cons (ps_set (i := 6) nd rfl (Or.inl rfl) (pe_callN (ok_push T) (hr.mono (by decide)) (by rfl) T.m_push T.F_push.kp kp pass0 (pa_cons (pe_fld (pv 0) rfl) (pa_cons (pe_fld (pv 0) rfl) pa_nil)) (pk_cons (pv 3) pk_nil)))
      (pss_one (ps_ret (pe_and (pe_cmpR (op_eqD hu) (pe_fld (pv 6) rfl) (pv 4) (nomark _)) (pe_one (pe_cmpR op_eq (pe_ix (r := rIx K) ix_seq (pe_fld (pv 6) rfl) (pe_un un_neg pe_int) (fun _ _ => rfl)) (pv 2) (nomark _))))))))), ?_⟩
    refine ⟨_, rfl, _, rfl, _, rfl, r, w, place, ks, rfl, h, fun H1 z t u s1 ez e1 eu => ?_⟩
    refine ⟨_, _, rfl, SqT.of ez, rfl, _, _, rfl, _, _, rfl, rfl, ?_⟩
    have g1 := s1 _ _ g
    have e01 := s1 _ _ e0
    refine ⟨_, rfl, o, A.CU, dx, _, _, rfl, g1, T.cTU, T.uRow, fdU_row _ _, t0, _, rfl, .inr (SqT.of e01), _, rfl, t, _, rfl, .inr (SqT.of e1), _, _, rfl, rfl, rfl, _, rfl, ?_⟩
    rw [List.length_map, List.length_map]
    have en : ∀ b : Bool, decide (bs.length + 1 = ks.length) = b → (!decide (V.int (bs.length : Nat) = V.int ((ks.length : Int) - 1))) = !b := fun b hb => by
      rw [← hb]
      by_cases h1 : bs.length + 1 = ks.length
      · rw [decide_eq_true h1, decide_eq_true (show V.int (bs.length : Nat) = V.int ((ks.length : Int) - 1) by congr 1; omega)]
      · rw [decide_eq_false h1, decide_eq_false fun z => h1 (by injection z with z; omega)]
    have q1 := q H1 s1
    by_cases h1 : bs.length + 1 = ks.length
    case neg =>
      rw [decide_eq_false (show ¬ undP w ks bs key place from fun z => h1 z.1)] at q1
      exact ite_b (c := true) (en false (decide_eq_false h1)) (iteT (iteT q1))
    refine ite_b (c := false) (en true (decide_eq_true h1)) (iteF ⟨_, rfl, o, A.CU, dx, _, _, rfl, g1, T.cTU, T.uRow, fdU_row _ _, _, rfl, rfl, rfl, t0, w, bs, rfl, hw, ⟨.inr e01, hbl, hbb⟩, fun H2 s2 => ⟨_, rfl, ?_⟩⟩)
    have s12 := s1.trans s2
    have q2 := q H2 s12
    by_cases h2 : faultL bs w = []
    case neg =>
      rw [decide_eq_false h2]
      rw [decide_eq_false (show ¬ undP w ks bs key place from fun z => h2 z.2.1)] at q2
      exact iteT q2
    rw [decide_eq_true h2]
    have h12 := h.row.2.1
    have g2 := s2 _ _ g1
    refine iteF ⟨_, rfl, o, A.CU, dx, _, _, rfl, g2, T.cTU, T.uRow, fdU_row _ _, _, rfl, o, A.CU, dx, _, _, rfl, g2, T.cTU, T.uKey, fdU_key _ _, _, rfl, rfl, rfl, t0, w, key, bs, rfl, hw, ⟨.inr (s2 _ _ e01), hbl, hbb⟩, h2, hkb, by omega, fun H3 x s3 ⟨dz, z1, z2, k2, k3, k4⟩ => ?_⟩
    have q3 := q H3 (s12.trans s3)
    have et := s3 _ _ (s2 _ _ e1)
    refine ⟨_, rfl, x, A.CS, dz, _, _, rfl, k2, T.cTS, T.nRow, zf_row _ _ _, _, rfl, _, _, ints_tup K k3, ints_tup K et, ints_shT _, ints_shT _, _, rfl, ?_⟩
    rw [ints_eqv]
    by_cases h4 : (pushR bs w key).1 = ks
    case neg =>
      rw [show decide ((goUp w 20 (bs ++ [key]) bs.length [bs.length] 0).1 = ks) = false from decide_eq_false h4]
      rw [decide_eq_false (show ¬ undP w ks bs key place from fun z => h4 z.2.2.1)] at q3
      exact iteF q3
    rw [show decide ((goUp w 20 (bs ++ [key]) bs.length [bs.length] 0).1 = ks) = true from decide_eq_true h4]
    have hwn : (pushR bs w key).2.1 ≠ [] := up_wayne w _ _ _ _ _ (by simp)
    refine iteT ⟨_, rfl, x, A.CS, dz, _, _, rfl, k2, T.cTS, T.nWay, zf_way _ _ _, _, rfl, .inr (.inl ⟨z2, _, _, _, rfl, rfl, SqT.of k4, last_wz hwn, _, rfl, rfl, ?_⟩)⟩
    rw [int_deq]
    have ed : decide (undP w ks bs key place) = decide (((lastW (pushR bs w key).2.1 : Nat) : Int) = (place : Int)) := by
      unfold undP
      simp only [h1, h2, h4, true_and, Int.natCast_inj]
    rw [ed] at q3
    exact q3
theorem b_cont (T : Tx K mg A) : L2.Binds K A.d_t___contains__ ["self", "thing"] [] := T.F_t___contains__.binds fun _ _ _ _ _ _ us hl => match us, hl with | [_, _], _ => rfl
/-- thing in tree -/
def spCont (K : PySem.W.Frag) (C : Addr) : Sp := fun vs H Q _ => ∃ (p n w : Nat) (x : V), vs = [.ref p, x] ∧ TreeAt C H p n w ∧
  ((∃ i : Int, x = .int i ∧ Q (.bl (decide (0 ≤ i ∧ i ≤ (n : Int) - 1))) H) ∨ (∃ c b1 b2, TyX K H x (.type c) ∧ kitB c "int" = some b1 ∧ kitB c "bool" = some b2 ∧ (b1 && !b2) = false ∧ Q (.bl false) H))
theorem ok_cont (T : Tx K mg A) : FnOk P w K mg base CX0 3 A.f_t___contains__ A.d_t___contains__ ["self", "thing"] (spCont K A.C) := by
  refine T.F_t___contains__.ok sc_t___contains__ (fun vs H Q E h => ?_) (fun cdv B outer s H vs Q E hr h => ?_)
  · obtain ⟨p, n, w, x, rfl, _⟩ := h
    rfl
  · obtain ⟨p, n, w, x, rfl, t, q⟩ := h
    obtain ⟨dx, l, h1, h2⟩ := t.ob
    refine ⟨_, pss_one (ps_ret (pe_call (ok_ii T) hr (by rfl) T.m_is_integer_from T.F_is_integer_from.kp (b_ii T) .nil pass0 (pa_cons (pv 1) (pa_cons pe_int (pa_cons (pe_op op_sub (pe_fld (pv 0) rfl) pe_int) pa_nil))))), ?_⟩
    exact ⟨_, rfl, _, rfl, p, A.C, dx, _, _, rfl, h1, T.cT, T.nMany, tf_many _ _ _, _, _, rfl, rfl, _, _, _, rfl, q⟩
def spYsh (A : Ad) : Sp := fun vs H Q _ => ∃ (o r w place one other : Nat) (ks : List Int), vs = [.ref o, .ref r, .int place, .int w] ∧ AtY A.CY H o (one : Nat) (other : Nat) ∧ PuOk H r w ks place ∧
  ∀ H', Same H H' → Q (.bl (decide (stkP w ks place one other))) H'
theorem ok_ysh (T : Tx K mg A) : FnOk P w K mg base CX0 12 A.f_y_shows A.d_y_shows ["self", "row", "place", "arms"] (spYsh A) := by
  obtain ⟨mo, ko⟩ := kb_of T
  refine T.F_y_shows.ok sc_y_shows (fun vs H Q E h => ?_) (fun cdv B outer s H vs Q E hr h => ?_)
  · obtain ⟨o, r, w, place, one, other, ks, rfl, _⟩ := h
    rfl
  · obtain ⟨o, r, w, place, one, other, ks, rfl, ⟨dx, g⟩, h, q⟩ := h
    have nd := sc_y_shows.nd
    have hu := hr.units
    have hw := h.hw
    have h1 := h.h1
    have h12 := h.row.2.1
    have hib := fun one => in_bel (one := one) hw h12 h1 h.pl
    obtain ⟨b1, b2, b3, b4⟩ := bel_ok hw h12 h1 h.pl
    refine ⟨_, PSs.nox (pss_cons (ps_asg (pe_call (ok_bel T) (hr.mono (by decide)) (by rfl) T.m_heap_and_way_below T.F_heap_and_way_below.kp (b_bel T) .nil pass0 (pa_cons (pv 1) (pa_cons (pv 2) (pa_cons (pv 3) pa_nil)))) (pg_tup rfl (pgs_cons (pg_name (i := 4) nd rfl (Or.inl rfl)) (pgs_cons (pg_name (i := 5) nd rfl (Or.inl rfl)) pgs_nil))))
      (pss_cons (ps_set (i := 6) nd rfl (Or.inl rfl) (pe_cmethK (pe_glob (v := .ref A.C) (by rfl) T.mC (relR _)) T.cr T.cof (ok_of T) (hr.mono (by decide)) ko pass0 (pa_cons (pv 4) pa_nil) (pk_cons (pv 3) pk_nil)))
      (pss_cons (ps_if (PW.pt (pw_or (pt_cmpR (op_notIn_own T.D_t___contains__ (ok_cont T) (hr.mono (by decide)) (b_cont T) pass0) (pe_fld (pv 0) rfl) (pv 6) (by rfl)) (pw_or (pt_cmpR (op_notIn_own T.D_t___contains__ (ok_cont T) (hr.mono (by decide)) (b_cont T) pass0) (pe_fld (pv 0) rfl) (pv 6) (by rfl)) (pw_or1 (pt_cmpR (r := L2.rIn K true) op_notIn_seq (pe_fld (pv 0) rfl) (pv 5) (by rfl)))))) (pss_one (ps_ret pe_bl)) pss_nil)
      (pss_one (ps_ret (pe_and (pe_cmpR op_eq (pe_meth (pv 6) T.cT T.M_t_parent (ok_par T) (hr.mono (by decide)) (b_par T) .nil pass0 (pa_cons (pe_fld (pv 0) rfl) pa_nil)) (pe_meth (pv 6) T.cT T.M_t_parent (ok_par T) (hr.mono (by decide)) (b_par T) .nil pass0 (pa_cons (pe_fld (pv 0) rfl) pa_nil)) (nomark _)) (pe_one (pe_cmpR op_lt (pe_ix (r := rIx K) ix_seq (pv 4) (pe_fld (pv 0) rfl) (fun _ _ => rfl)) (pe_ix (r := rIx K) ix_seq (pv 4) (pe_fld (pv 0) rfl) (fun _ _ => rfl)) (nomark _))))))))), ?_⟩
    refine ⟨_, rfl, _, rfl, _, rfl, r, w, place, ks, rfl, h, fun H1 z t u s1 ez e1 eu => ?_⟩
    refine ⟨_, _, rfl, SqT.of ez, rfl, _, _, rfl, _, _, rfl, rfl, ?_⟩
    refine ⟨rfl, _, rfl, _, rfl, rfl, rfl, t, w, ks, rfl, hw, .inr e1, h12, h.row.2.2, fun H2 tr s2 p0 t2 => ?_⟩
    have g2 := s2 _ _ (s1 _ _ g)
    have e2 := s2 _ _ e1
    have eu2 := SqT.sm s2 eu
    have q := q H2 (s1.trans s2)
    obtain ⟨dt, lt, g3, g4⟩ := id t2.ob
    refine ⟨_, rfl, o, A.CY, dx, _, _, rfl, g2, T.cTY, T.yPlace, fdY_place _ _, _, rfl, tr, dt, _, rfl, g3, tr, ks.length, w, _, rfl, t2, .inl ⟨_, rfl, _, rfl, _, rfl, ?_⟩⟩
    have en : ∀ (x : Nat) (c : Bool), (!decide (x < ks.length)) = c → (if (true : Bool) = true then !decide (0 ≤ (x : Int) ∧ (x : Int) ≤ (ks.length : Int) - 1) else decide (0 ≤ (x : Int) ∧ (x : Int) ≤ (ks.length : Int) - 1)) = c := fun x c hc => by
      rw [if_pos rfl, ← hc]
      congr 1
      exact decide_eq_decide.mpr (by omega)
    have hin : stkP w ks place one other → one < ks.length ∧ other < ks.length ∧ one ∈ belL w ks.length place := fun z => by
      have hb := (hib one).mpr z.1
      exact ⟨((down_lt hw.1 _ _ b1 b2).1 one hb).2, (mem_kid.mp z.2.1).2.1, hb⟩
    by_cases h3 : one < ks.length
    case neg =>
      rw [decide_eq_false (show ¬ stkP w ks place one other from fun z => h3 (hin z).1)] at q
      exact ite_b (c := true) (en one true (by rw [decide_eq_false h3]; rfl)) (iteT (iteT q))
    refine ite_b (c := false) (en one false (by rw [decide_eq_true h3]; rfl)) (iteF ⟨_, rfl, o, A.CY, dx, _, _, rfl, g2, T.cTY, T.yOther, fdY_other _ _, _, rfl, tr, dt, _, rfl, g3, tr, ks.length, w, _, rfl, t2, .inl ⟨_, rfl, _, rfl, _, rfl, ?_⟩⟩)
    by_cases h4 : other < ks.length
    case neg =>
      rw [decide_eq_false (show ¬ stkP w ks place one other from fun z => h4 (hin z).2.1)] at q
      exact ite_b (c := true) (en other true (by rw [decide_eq_false h4]; rfl)) (iteT (iteT q))
    refine ite_b (c := false) (en other false (by rw [decide_eq_true h4]; rfl)) (iteF ⟨_, rfl, o, A.CY, dx, _, _, rfl, g2, T.cTY, T.yPlace, fdY_place _ _, _, rfl, u, _, rfl, .inr eu2, rfl, vi_flat _, _, rfl, ?_⟩)
    rw [if_pos rfl, mem_vi]
    by_cases h5 : one ∈ belL w ks.length place
    case neg =>
      rw [decide_eq_false (show ¬ stkP w ks place one other from fun z => h5 (hin z).2.2)] at q
      rw [decide_eq_false h5]
      exact iteT q
    rw [decide_eq_true h5]
    have h6 := ((down_lt hw.1 _ _ b1 b2).1 one h5).1
    have noP : (tf ks.length w lt).lookup ("parent" : Str) = none := tf_no _ _ _ (by decide +kernel) (by decide +kernel) (by decide +kernel)
    have hp1 : parV w one = V.int (((one - 1) / w : Nat) : Int) := by unfold parV; rw [if_neg (by omega)]
    refine iteF ⟨_, rfl, tr, dt, _, rfl, g3, noP, _, rfl, o, A.CY, dx, _, _, rfl, g2, T.cTY, T.yOther, fdY_other _ _, tr, ks.length, w, other, rfl, t2, h4, _, rfl, tr, dt, _, rfl, g3, noP, _, rfl, o, A.CY, dx, _, _, rfl, g2, T.cTY, T.yPlace, fdY_place _ _, tr, ks.length, w, one, rfl, t2, h3, ?_, ?_⟩
    · rw [hp1]
      unfold parV
      split <;> rfl
    have epar : decide (parV w other = parV w one) = decide (other ∈ kidL ks.length w ((one - 1) / w)) := decide_eq_decide.mpr (by
      rw [hp1, mem_kid]
      unfold parV
      by_cases h0 : other = 0
      · rw [if_pos h0]
        exact ⟨fun z => (nomatch z), fun z => by omega⟩
      · rw [if_neg h0]
        refine ⟨fun z => ⟨by omega, h4, by injection z with z; omega⟩, fun z => by rw [z.2.2]⟩)
    rw [epar]
    by_cases h7 : other ∈ kidL ks.length w ((one - 1) / w)
    case neg =>
      rw [decide_eq_false h7]
      rw [decide_eq_false (show ¬ stkP w ks place one other from fun z => h7 z.2.1)] at q
      exact ⟨_, rfl, iteF q⟩
    rw [decide_eq_true h7]
    refine ⟨_, rfl, iteT ⟨_, rfl, _, rfl, o, A.CY, dx, _, _, rfl, g2, T.cTY, T.yOther, fdY_other _ _, .inr (.inl ⟨t, _, _, _, rfl, rfl, SqT.of e2, key_at h4, ?_⟩)⟩⟩
    refine ⟨_, rfl, _, rfl, o, A.CY, dx, _, _, rfl, g2, T.cTY, T.yPlace, fdY_place _ _, .inr (.inl ⟨t, _, _, _, rfl, rfl, SqT.of e2, key_at h3, ?_⟩)⟩
    refine ⟨_, _, rfl, rfl, ?_⟩
    have ed : decide (stkP w ks place one other) = decide (keyAt ks other < keyAt ks one) := by
      unfold stkP
      simp only [(hib one).mp h5, h7, and_self, true_and]
    rw [ed] at q
    exact q
theorem q5 : ¬ (("changes" : Str) = "looks") := by decide +kernel
theorem refl_of {d : PyData} (h : SeqAt.shaped d = true) : PyData.eqv d d = true := PySem.SeqAt.eqv_refl d (SeqAt.canLay_of_shaped h)
end
end Tw

set_option Elab.async false
set_option linter.all false
set_option maxRecDepth 100000
set_option maxHeartbeats 2000000
namespace Tw
open PySem PySem.Spec PyProof.Rows L2
section
variable {P : Program} {w : World} {K : PySem.W.Frag} {mg : Str → Option Value} {base : Heap} {A : Ad}
open LamX (ExtN Tabs TabS)
/-! the law's own: _law_undone_right -/
theorem fdU_shows (a b : V) : (fdU a b).lookup ("shows" : Str) = none := by
  unfold fdU
  rw [lookup_putF, if_neg (by decide +kernel), lookup_putF, if_neg (by decide +kernel)]
  rfl
theorem fdY_shows (a b : V) : (fdY a b).lookup ("shows" : Str) = none := by
  unfold fdY
  rw [lookup_putF, if_neg (by decide +kernel), lookup_putF, if_neg (by decide +kernel)]
  rfl
structure UrI (A : Ad) (r W : Addr) (ks : List Int) (ws : List Nat) (H0 H : Hp) : Prop where
  e : ExtN H0 H
  t : Tabs (TT A) H
  er : H r = some (.lst (ks.map V.int))
  ew : H W = some (.lst (vi ws))
theorem UrI.ext {A : Ad} {r W : Addr} {ks : List Int} {ws : List Nat} {H0 H H' : Hp} (h : UrI A r W ks ws H0 H) (e : ExtN H H') (t : Tabs (TT A) H') : UrI A r W ks ws H0 H' := ⟨h.e.trans e, t, e _ _ h.er (fun _ z => nomatch z), e _ _ h.ew (fun _ z => nomatch z)⟩
theorem UrI.same {A : Ad} {r W : Addr} {ks : List Int} {ws : List Nat} {H0 H H' : Hp} (h : UrI A r W ks ws H0 H) (s : Same H H') : UrI A r W ks ws H0 H' := h.ext (extN_of s) (h.t.ext s)
theorem FndU.same {A : Ad} {w place : Nat} {ks : List Int} {H H' : Hp} {q : Addr} (h : FndU A w ks place H q) (s : Same H H') : FndU A w ks place H' q := h.imp (fun ⟨c, a, b⟩ => ⟨c, a, b.same s⟩) (fun ⟨a, b⟩ => ⟨a, b.same s⟩)
structure UrU (A : Ad) (r W D q5 q6 t u : Addr) (ks : List Int) (ws as : List Nat) (bs : List Int) (key : Int) (H0 H : Hp) : Prop where
  I : UrI A r W ks ws H0 H
  eD : H D = some (.lst (vi as))
  at' : AtU A.CU H q5 bs key
  e6 : H q6 = some (.lst [.ref t])
  et : H t = some (.tup [.ref u, .int key])
  eu : H u = some (.tup (bs.map V.int))
theorem UrU.ext {A : Ad} {r W D q5 q6 t u : Addr} {ks : List Int} {ws as : List Nat} {bs : List Int} {key : Int} {H0 H H' : Hp} (h : UrU A r W D q5 q6 t u ks ws as bs key H0 H) (e : ExtN H H') (tb : Tabs (TT A) H') : UrU A r W D q5 q6 t u ks ws as bs key H0 H' :=
  ⟨h.I.ext e tb, e _ _ h.eD (fun _ z => nomatch z), h.at'.ext e, e _ _ h.e6 (fun _ z => nomatch z), e _ _ h.et (fun _ z => nomatch z), e _ _ h.eu (fun _ z => nomatch z)⟩
theorem UrU.same {A : Ad} {r W D q5 q6 t u : Addr} {ks : List Int} {ws as : List Nat} {bs : List Int} {key : Int} {H0 H H' : Hp} (h : UrU A r W D q5 q6 t u ks ws as bs key H0 H) (s : Same H H') : UrU A r W D q5 q6 t u ks ws as bs key H0 H' := h.ext (extN_of s) (h.I.t.ext s)
structure UrY (A : Ad) (r W D q5 q6 : Addr) (ks : List Int) (ws as : List Nat) (c o : Nat) (H0 H : Hp) : Prop where
  I : UrI A r W ks ws H0 H
  eD : H D = some (.lst (vi as))
  at' : AtY A.CY H q5 (c : Nat) (o : Nat)
  e6 : H q6 = some (.lst [])
theorem UrY.ext {A : Ad} {r W D q5 q6 : Addr} {ks : List Int} {ws as : List Nat} {c o : Nat} {H0 H H' : Hp} (h : UrY A r W D q5 q6 ks ws as c o H0 H) (e : ExtN H H') (tb : Tabs (TT A) H') : UrY A r W D q5 q6 ks ws as c o H0 H' :=
  ⟨h.I.ext e tb, e _ _ h.eD (fun _ z => nomatch z), h.at'.ext e, e _ _ h.e6 (fun _ z => nomatch z)⟩
theorem UrY.same {A : Ad} {r W D q5 q6 : Addr} {ks : List Int} {ws as : List Nat} {c o : Nat} {H0 H H' : Hp} (h : UrY A r W D q5 q6 ks ws as c o H0 H) (s : Same H H') : UrY A r W D q5 q6 ks ws as c o H0 H' := h.ext (extN_of s) (h.I.t.ext s)
def pairD (bs : List Int) (key : Int) : PyData := .tuple [.tuple (bs.map PyData.int), .int key]
theorem ints_depth : ∀ l : List Int, PyData.depthAll (l.map PyData.int) ≤ 1
  | [] => by simp [PyData.depthAll]
  | a :: l => by
    have := ints_depth l
    rw [List.map_cons, PyData.depthAll]
    simp only [PyData.depth]
    omega
theorem pair_sh (bs : List Int) (key : Int) : SeqAt.shaped (.list [pairD bs key]) = true := by
  simp [SeqAt.shaped, pairD, PyData.canLay0, PyData.canLayAll0, ints_lay, PyData.depth, PyData.depthAll]
  have := ints_depth bs
  omega
def UrB (A : Ad) (r W D q5 q6 : Addr) (w : Nat) (ks : List Int) (ws as : List Nat) (p : Nat) (H0 H : Hp) : Prop :=
  (badL ks.length w ks (belL w ks.length p) = none ∧ ∃ t u, UrU A r W D q5 q6 t u ks ws as (undR w ks p) (keyAt ks p) H0 H) ∨
  (∃ c, badL ks.length w ks (belL w ks.length p) = some c ∧ UrY A r W D q5 q6 ks ws as c (leastC ks (kidL ks.length w ((c - 1) / w))) H0 H)
def spLur (A : Ad) : Sp := fun vs H Q _ => ∃ (r w : Nat) (ks : List Int), vs = [.ref r, .int w] ∧ (1 ≤ w ∧ w ≤ 4) ∧ H r = some (.lst (ks.map V.int)) ∧ ks.length ≤ 6 ∧ 1 ≤ ks.length ∧ (∀ n ∈ ks, -1000000000 ≤ n ∧ n ≤ 1000000000) ∧ faultL ks w = [] ∧ ks.Nodup ∧ Tabs (TT A) H ∧
  ∀ (H' : Hp), ExtN H H' → Tabs (TT A) H' → Q (.bl true) H'
theorem ok_lur (T : Tx K mg A) (TB : LamX.TabB base mg A.c_undo_push A.P_undo_push) : FnOk P w K mg base CX0 13 A.f__law_undone_right A.d__law_undone_right ["row", "wide"] (spLur A) := by
  obtain ⟨mu, kup⟩ := kup2 T
  obtain ⟨ml, klp⟩ := klp T
  obtain ⟨m1, kus⟩ := kush T
  obtain ⟨m2, kys⟩ := kysh T
  refine T.F__law_undone_right.ok sc__law_undone_right (fun vs H Q E h => ?_) (fun cdv B outer s H vs Q E hr h => ?_)
  · obtain ⟨r, w, ks, rfl, _⟩ := h
    rfl
  · obtain ⟨r, w, ks, rfl, hw, er, h6, h1, hb, hf, hnd, hT, q⟩ := h
    have nd := sc__law_undone_right.nd
    have hu := hr.units
    have hwl := way_n12 w (by omega) (ks.length - 1) (by omega) hw.1
    have hpu : ∀ {G : Hp} {a : Addr} {p : Nat}, Sq G a (ks.map V.int) → p ∈ wayL w (ks.length - 1) → PuOk G a w ks p := fun h hp => ⟨hw, ⟨h, by omega, hb⟩, hf, hnd, h1, hp⟩
    obtain ⟨ws, ews⟩ : ∃ ws, ws = wayL w (ks.length - 1) := ⟨_, rfl⟩
    refine ⟨_, PSs.nox (C8.pss_cut (ps_par (i := 2) (j := 3) rfl nd rfl rfl (by decide) rfl rfl (pa_cons (pe_call (ok_lway T) (hr.mono (by decide)) (by rfl) T.m__law_way T.F__law_way.kp (b_lway T) .nil pass0 (pa_cons (pv 1) (pa_cons (pe_op op_sub (pe_callB call_len_seq (by rfl) T.g_len PySem.boot_len (pa_cons (pv 0) pa_nil)) pe_int) pa_nil))) (pa_cons (pe_lst pa_nil) pa_nil)) rfl)
      (C8.pss_cut (ps_for PassesOwn.never rfl (pi_list (pv 2)) (pg_name (i := 4) nd rfl (Or.inr rfl)) (C8.pss_cut (ps_par (i := 5) (j := 6) rfl nd rfl rfl (by decide) rfl rfl (pa_cons (pe_callN (ok_up2 T TB) (hr.mono (by decide)) (by rfl) T.m_undo_push T.F_undo_push.kp kup pass0 (pa_cons (pv 0) (pa_cons (pv 4) pa_nil)) (pk_cons (pv 1) pk_nil)) (pa_cons (pe_call (ok_lah T) (hr.mono (by decide)) (by rfl) T.m__law_ahead T.F__law_ahead.kp (b_lah T) .nil pass0 (pa_cons (pv 0) (pa_cons (pv 1) (pa_cons (pv 4) pa_nil)))) pa_nil)) rfl)
      (C8.pss_cut (ps_if (pt_cmpR op_ne (pe_callB call_isi (by rfl) T.g_isinstance (by decide +kernel) (pa_cons (pv 5) (pa_cons (pe_glob (v := .ref A.CU) (by rfl) T.mCU (relR _)) pa_nil))) (pe_cmpR (op_neD hu) (pv 6) (pe_lst pa_nil) (nomark _)) (nomark _)) (pss_one (ps_ret pe_bl)) pss_nil)
      (C8.pss_cut (ps_if (pt_cmpR (op_notBl) (pe_two (pe_methN (pv 5) T.cTU T.M_u_shows (ok_ush T) (hr.mono (by decide)) kus pass0 (pa_cons (pv 0) (pa_cons (pv 4) pa_nil)) (pk_cons (pv 1) pk_nil)) (pe_methN (pv 5) T.cTY T.M_y_shows (ok_ysh T) (hr.mono (by decide)) kys pass0 (pa_cons (pv 0) (pa_cons (pv 4) pa_nil)) (pk_cons (pv 1) pk_nil))) pe_bl (nomark _)) (pss_one (ps_ret pe_bl)) pss_nil)
      (C8.pss_cut (ps_if (PW.pt (pw_and (pt_cmpR (op_neD hu) (pv 6) (pe_lst pa_nil) (nomark _)) (pw_and1 (pt_cmpR (op_neD hu) (pe_lst (pa_cons (pe_tup (pa_cons (pe_fld (pv 5) rfl) (pa_cons (pe_fld (pv 5) rfl) pa_nil))) pa_nil)) (pv 6) (nomark _))))) (pss_one (ps_ret pe_bl)) pss_nil)
      (C8.pss_cut (ps_if (pt_cmpR (op_eqD hu) (pv 6) (pe_lst pa_nil) (nomark _)) (C8.pss_cut (ps_if (PW.pt (pw_or (pt_not (pt_val (pe_callB call_isi (by rfl) T.g_isinstance (by decide +kernel) (pa_cons (pv 5) (pa_cons (pe_glob (v := .ref A.CY) (by rfl) T.mCY (relR _)) pa_nil))))) (pw_or1 (pt_cmpR (r := L2.rIn K true) op_notIn_seq (pe_fld (pv 5) rfl) (pv 2) (by rfl))))) (pss_one (ps_ret pe_bl)) pss_nil)
      (C8.pss_cut (ps_if (pt_cmpR op_le (pe_fld (pv 5) rfl) (pv 4) (nomark _)) (pss_one (ps_ret pe_bl)) pss_nil)
      (C8.pss_cut (ps_set (i := 7) nd rfl (Or.inl rfl) (pe_call (ok_lkid T) (hr.mono (by decide)) (by rfl) T.m__law_children T.F__law_children.kp (b_lkid T) .nil pass0 (pa_cons (pv 1) (pa_cons (pe_callB call_len_seq (by rfl) T.g_len PySem.boot_len (pa_cons (pv 0) pa_nil)) (pa_cons (pe_call (ok_lpar T) (hr.mono (by decide)) (by rfl) T.m__law_parent T.F__law_parent.kp (b_lpar T) .nil pass0 (pa_cons (pv 1) (pa_cons (pe_fld (pv 5) rfl) pa_nil))) pa_nil)))))
      (C8.pss_cut (ps_if (pt_cmpR (r := L2.rIn K true) op_notIn_seq (pe_fld (pv 5) rfl) (pv 7) (by rfl)) (pss_one (ps_ret pe_bl)) pss_nil)
      (pss_one (ps_if (pt_not (pt_cmpR op_lt (pe_ix ix_list (pv 0) (pe_fld (pv 5) rfl) (fun _ _ => rfl)) (pe_ix ix_list (pv 0) (pe_fld (pv 5) rfl) (fun _ _ => rfl)) (nomark _))) (pss_one (ps_ret pe_bl)) pss_nil)))))) pss_nil)
      (pss_one (ps_set (i := 3) nd rfl (Or.inl rfl) (pe_op op_cat (pv 3) (pe_lc (own := [("one", 8)]) (g := gName 8) (tt := tYes) rfl nd (pi_list (pv 6)) (blkOk_by (own := [("one", 8)]) (N := ["row", "wide", "way", "able", "place", "found", "due", "brothers", "one"]) (sc := (defScope s__law_undone_right)) (by decide +kernel)) (fun _ _ _ _ _ => pg_name (i := 8) nd rfl (Or.inl rfl)) (fun _ _ _ _ _ => pts_nil) (fun _ _ _ _ _ => (pv 4))))))))))))
      (C8.pss_cut (ps_if (pt_not (pt_cmpR (op_eqD hu) (pe_callN (ok_lp T TB) (hr.mono (by decide)) (by rfl) T.m_last_places T.F_last_places.kp klp pass0 (pa_cons (pv 0) pa_nil) (pk_cons (pv 1) pk_nil)) (pv 3) (nomark _))) (pss_one (ps_ret pe_bl)) pss_nil)
      (pss_one (ps_ret (pe_cmpR (op_eqD hu) (pe_callN (ok_lp T TB) (hr.mono (by decide)) (by rfl) T.m_last_places T.F_last_places.kp klp pass0 (pa_cons (pe_callTy call_tuple_of (by rfl) T.g_tuple (by decide +kernel) (pa_cons (pv 0) pa_nil)) pa_nil) (pk_cons (pv 1) pk_nil)) (pv 3) (nomark _))))))), ?_⟩
    refine ⟨fun σ' H' => ∃ W D : Addr, σ' = [some (.ref r), some (.int w), some (.ref W), some (.ref D), none, none, none, none, none] ∧ UrI A r W ks ws H H' ∧ H' D = some (.lst []), ?_, ?_⟩
    · refine ⟨_, rfl, _, rfl, r, _, rfl, .inl (SqL.of er), _, _, rfl, rfl, w, ks.length - 1, ?_, hw, by omega, fun H1 y s1 ny ey => ?_⟩
      · rw [List.length_map]
        show [V.int (w : Nat), V.int ((ks.length : Int) - 1)] = _
        rw [show ((ks.length : Nat) : Int) - 1 = ((ks.length - 1 : Nat) : Int) by omega]
      have I1 : UrI A r y ks ws H H1 := ⟨extN_of s1, hT.ext s1, s1 _ _ er, by rw [ews]; exact ey⟩
      exact ⟨Nat.zero_le _, fun D nD => ⟨_, _, rfl, y, D, rfl, I1.same (Same.up nD), upd_same⟩⟩
    rintro σ' H1 ⟨W, D, rfl, I1, eD⟩
    refine ⟨fun σ' H' => ∃ (D : Addr) (x4 x5 x6 x7 : Option V), σ' = [some (.ref r), some (.int w), some (.ref W), some (.ref D), x4, x5, x6, x7, none] ∧ UrI A r W ks ws H H' ∧ H' D = some (.lst (vi (ws.filter (freeB w ks)))), ?_, ?_⟩
    · refine ⟨_, rfl, W, rfl, ⟨_, SqL.of I1.ew⟩, ?_⟩
      refine for_it (walk_list (xs := vi ws)) (fun i σ' H' => (∃ (D : Addr) (x4 x5 x6 x7 : Option V), σ' = [some (.ref r), some (.int w), some (.ref W), some (.ref D), x4, x5, x6, x7, none] ∧ H' D = some (.lst (vi ((ws.take i).filter (freeB w ks))))) ∧ UrI A r W ks ws H H')
        ⟨⟨D, none, none, none, none, rfl, eD⟩, I1⟩ (fun i σ' H' _ h => SqL.of h.2.ew) ?_ ?_
      · rintro i x σ' H3o H3 hi ⟨⟨D, x4, x5, x6, x7, rfl, eD⟩, I3⟩ ⟨rfl, hx⟩
        rw [vi_len] at hi
        rw [vi_getD hi] at hx
        cases hx
        rw [show ws.getD i 0 = ws[i] by rw [List.getD_eq_getElem?_getD, List.getElem?_eq_getElem hi]; rfl]
        have hpm : ws[i] ∈ ws := List.getElem_mem hi
        rw [← List.take_append_getElem hi, List.filter_append]
        have hfl : ((ws.take i).filter (freeB w ks)).length ≤ 13 := Nat.le_trans (List.length_filter_le _ _) (by rw [List.length_take]; rw [← ews] at hwl; omega)
        generalize (ws.take i).filter (freeB w ks) = as at *
        generalize ws[i] = p at *
        have hpl : p ∈ wayL w (ks.length - 1) := by rw [← ews]; exact hpm
        refine ⟨fun σ' H' => ∃ (q5 q6 : Addr), σ' = [some (.ref r), some (.int w), some (.ref W), some (.ref D), some (.int p), some (.ref q5), some (.ref q6), x7, none] ∧ UrB A r W D q5 q6 w ks ws as p H H', ?_, ?_⟩
        · refine ⟨_, rfl, _, rfl, _, rfl, rfl, rfl, r, w, p, ks, rfl, hpu (.inl I3.er) hpl, I3.t, fun H4 q5 e4 t4 f4 => ?_⟩
          have I4 := I3.ext e4 t4
          have eD4 := e4 _ _ eD (fun _ z => nomatch z)
          refine ⟨_, rfl, _, rfl, _, rfl, r, w, p, ks, rfl, hw, I4.er, h6, h1, hb, hf, hnd, hpl, fun H5 q6 s5 ac => ?_⟩
          refine ⟨_, _, rfl, q5, q6, rfl, ?_⟩
          obtain ⟨xs, e6, p6⟩ := ac.a
          unfold aheadL at p6
          rcases f4 with ⟨c, hbad, aty⟩ | ⟨hfree, atu⟩
          · rw [if_neg (by rw [hbad]; intro z; cases z)] at p6
            cases p6
            exact .inr ⟨c, hbad, I4.same s5, s5 _ _ eD4, aty.same s5, e6⟩
          · rw [if_pos hfree] at p6
            cases p6 with
            | cons h p6 =>
              cases p6
              obtain ⟨t, u, rfl, et, eu⟩ := h
              exact .inl ⟨hfree, t, u, I4.same s5, s5 _ _ eD4, atu.same s5, e6, et, eu⟩
        rintro σ' H4 ⟨q5, q6, rfl, B4⟩
        clear I3 eD
        generalize eS : ([some (.ref r), some (.int w), some (.ref W), some (.ref D), some (.int p), some (.ref q5), some (.ref q6), x7, none] : L2.St) = S0
        -- is it undone, or stuck
        refine ⟨fun σ' H' => σ' = S0 ∧ UrB A r W D q5 q6 w ks ws as p H H', ?_, ?_⟩
        · subst eS
          rcases B4 with ⟨hfree, t, u, B⟩ | ⟨c, hbad, B⟩
          · obtain ⟨dx, t0, g, g0⟩ := id B.at'
            refine ⟨_, rfl, _, _, .ref A.CU, .ref A.CU, true, rfl, .own A.CU, .base (.ins g T.cTU T.kaU T.knU T.ktkU T.kmU), (by unfold PySem.W.kitOne; rw [if_pos (by simp)]), ?_⟩
            refine ⟨_, rfl, Nat.zero_le _, fun l0 n0 => ?_⟩
            have s5 := Same.up (o := .lst []) n0
            have B5 := B.same s5
            refine ⟨.list [pairD (undR w ks p) (keyAt ks p)], .list [], .lst (SqL.of B5.e6) (.cons (.tup (SqT.of B5.et) (.cons (ints_tup K B5.eu) (.cons (.int _) .nil))) .nil), .lst (SqL.of upd_same) .nil, pair_sh _ _, rfl, ?_⟩
            exact ⟨rfl, _, rfl, iteF ⟨rfl, .inl ⟨hfree, t, u, B5⟩⟩⟩
          · obtain ⟨dx, g⟩ := id B.at'
            refine ⟨_, rfl, _, _, .ref A.CY, .ref A.CU, false, rfl, .own A.CU, .base (.ins g T.cTY T.kaY T.knY T.ktkY T.kmY), T.kiU_CY, ?_⟩
            refine ⟨_, rfl, Nat.zero_le _, fun l0 n0 => ?_⟩
            have s5 := Same.up (o := .lst []) n0
            have B5 := B.same s5
            refine ⟨.list [], .list [], .lst (SqL.of B5.e6) .nil, .lst (SqL.of upd_same) .nil, rfl, rfl, ?_⟩
            exact ⟨rfl, _, rfl, iteF ⟨rfl, .inr ⟨c, hbad, B5⟩⟩⟩
        rintro σ' H5 ⟨eq, B5⟩
        subst σ'
        clear B4
        -- it shows
        refine ⟨fun σ' H' => σ' = S0 ∧ UrB A r W D q5 q6 w ks ws as p H H', ?_, ?_⟩
        · subst eS
          rcases B5 with ⟨hfree, t, u, B⟩ | ⟨c, hbad, B⟩
          · obtain ⟨dx, t0, g, g0⟩ := id B.at'
            obtain ⟨hund, hin⟩ := und_ok hw (by omega) h1 hf hnd hpl hfree
            have hkp := hb (keyAt ks p) (keyAt_mem (by have := way_leA w (by omega) (ks.length - 1) (by omega) hw.1 p hpl; omega))
            refine .inl ⟨_, rfl, q5, dx, _, rfl, g, fdU_shows _ _, _, rfl, _, rfl, _, rfl, rfl, rfl, q5, r, w, p, keyAt ks p, ks, undR w ks p, rfl, B.at', by have := hund.1; omega, fun z hz => hb z (hin z hz), hkp, hpu (.inl B.I.er) hpl, fun H6 s6 => ?_⟩
            refine ⟨_, _, rfl, rfl, _, rfl, ?_⟩
            rw [decide_eq_true hund, decide_eq_true rfl]
            exact iteF ⟨rfl, .inl ⟨hfree, t, u, B.same s6⟩⟩
          · obtain ⟨dx, g⟩ := id B.at'
            have hstk := stk_ok hw (by omega) h1 hnd hpl hbad
            refine .inr ⟨_, rfl, q5, dx, _, rfl, g, fdY_shows _ _, _, rfl, _, rfl, _, rfl, rfl, rfl, q5, r, w, p, c, _, ks, rfl, B.at', hpu (.inl B.I.er) hpl, fun H6 s6 => ?_⟩
            refine ⟨_, _, rfl, rfl, _, rfl, ?_⟩
            rw [decide_eq_true hstk, decide_eq_true rfl]
            exact iteF ⟨rfl, .inr ⟨c, hbad, B.same s6⟩⟩
        rintro σ' H6 ⟨eq, B6⟩
        subst σ'
        clear B5
        -- the only one
        refine ⟨fun σ' H' => σ' = S0 ∧ UrB A r W D q5 q6 w ks ws as p H H', ?_, ?_⟩
        · subst eS
          rcases B6 with ⟨hfree, t, u, B⟩ | ⟨c, hbad, B⟩
          · refine ⟨_, rfl, Nat.zero_le _, fun l0 n0 => ?_⟩
            have s5 := Same.up (o := .lst []) n0
            have B5 := B.same s5
            refine ⟨.list [pairD (undR w ks p) (keyAt ks p)], .list [], .lst (SqL.of B5.e6) (.cons (.tup (SqT.of B5.et) (.cons (ints_tup K B5.eu) (.cons (.int _) .nil))) .nil), .lst (SqL.of upd_same) .nil, pair_sh _ _, rfl, _, rfl, ?_⟩
            refine iteT ?_
            generalize upd H6 l0 (.lst []) = G at B5
            obtain ⟨dx, t0, g, g0⟩ := id B5.at'
            refine ⟨_, rfl, q5, A.CU, dx, _, _, rfl, g, T.cTU, T.uRow, fdU_row _ _, _, rfl, q5, A.CU, dx, _, _, rfl, g, T.cTU, T.uKey, fdU_key _ _, by show 2 ≤ sizeLine; decide, fun t2 nt2 => ?_⟩
            have s6 := Same.up (o := .tup [V.ref t0, V.int (keyAt ks p)]) nt2
            refine ⟨by show 1 ≤ sizeLine; decide, fun l2 nl2 => ?_⟩
            have s7 := s6.trans (Same.up (o := .lst [V.ref t2]) nl2)
            have B7 := B5.same s7
            have et2 : upd (upd G t2 (.tup [V.ref t0, V.int (keyAt ks p)])) l2 (.lst [V.ref t2]) t2 = some (.tup [V.ref t0, V.int (keyAt ks p)]) := (Same.up nl2) _ _ upd_same
            refine ⟨_, rfl, .list [pairD (undR w ks p) (keyAt ks p)], .list [pairD (undR w ks p) (keyAt ks p)], .lst (SqL.of upd_same) (.cons (.tup (SqT.of et2) (.cons (ints_tup K (s7 _ _ g0)) (.cons (.int _) .nil))) .nil), .lst (SqL.of B7.e6) (.cons (.tup (SqT.of B7.et) (.cons (ints_tup K B7.eu) (.cons (.int _) .nil))) .nil), pair_sh _ _, pair_sh _ _, _, rfl, ?_⟩
            rw [refl_of (pair_sh _ _)]
            exact iteF ⟨rfl, .inl ⟨hfree, t, u, B7⟩⟩
          · refine ⟨_, rfl, Nat.zero_le _, fun l0 n0 => ?_⟩
            have s5 := Same.up (o := .lst []) n0
            have B5 := B.same s5
            refine ⟨.list [], .list [], .lst (SqL.of B5.e6) .nil, .lst (SqL.of upd_same) .nil, rfl, rfl, _, rfl, ?_⟩
            exact iteF (iteF ⟨rfl, .inr ⟨c, hbad, B5⟩⟩)
        rintro σ' H7 ⟨eq, B7⟩
        subst σ'
        clear B6
        -- what bars it
        refine ⟨fun σ' H' => ∃ x7, σ' = [some (.ref r), some (.int w), some (.ref W), some (.ref D), some (.int p), some (.ref q5), some (.ref q6), x7, none] ∧ UrB A r W D q5 q6 w ks ws as p H H', ?_, ?_⟩
        · subst eS
          rcases B7 with ⟨hfree, t, u, B⟩ | ⟨c, hbad, B⟩
          · refine ⟨_, rfl, Nat.zero_le _, fun l0 n0 => ?_⟩
            have s5 := Same.up (o := .lst []) n0
            have B5 := B.same s5
            refine ⟨.list [pairD (undR w ks p) (keyAt ks p)], .list [], .lst (SqL.of B5.e6) (.cons (.tup (SqT.of B5.et) (.cons (ints_tup K B5.eu) (.cons (.int _) .nil))) .nil), .lst (SqL.of upd_same) .nil, pair_sh _ _, rfl, _, rfl, ?_⟩
            exact iteF ⟨_, rfl, .inl ⟨hfree, t, u, B5⟩⟩
          · refine ⟨_, rfl, Nat.zero_le _, fun l0 n0 => ?_⟩
            have s5 := Same.up (o := .lst []) n0
            have B5 := B.same s5
            refine ⟨.list [], .list [], .lst (SqL.of B5.e6) .nil, .lst (SqL.of upd_same) .nil, rfl, rfl, _, rfl, ?_⟩
            refine iteT ?_
            generalize upd H7 l0 (.lst []) = G at B5
            obtain ⟨⟨c1, c2⟩, o1, o2⟩ := stk_ok hw (by omega) h1 hnd hpl hbad
            have hcn := way_leA w (by omega) (ks.length - 1) (by omega) hw.1 c c1
            obtain ⟨o, eo⟩ : ∃ o, o = leastC ks (kidL ks.length w ((c - 1) / w)) := ⟨_, rfl⟩
            have B5' := B5
            rw [← eo] at o1 o2 B5'
            have hon := (mem_kid.mp o1).2.1
            obtain ⟨dx, g⟩ := id B5'.at'
            generalize eS : ([some (.ref r), some (.int w), some (.ref W), some (.ref D), some (.int p), some (.ref q5), some (.ref q6), x7, none] : L2.St) = S0
            refine ⟨fun σ' H' => σ' = S0 ∧ H' = G, ?_, ?_⟩
            · subst eS
              refine ⟨_, rfl, _, _, .ref A.CY, .ref A.CY, true, rfl, .own A.CY, .base (.ins g T.cTY T.kaY T.knY T.ktkY T.kmY), (by unfold PySem.W.kitOne; rw [if_pos (by simp)]), true, rfl, iteF ?_⟩
              refine ⟨_, rfl, q5, A.CY, dx, _, _, rfl, g, T.cTY, T.yPlace, fdY_place _ _, _, rfl, W, _, rfl, .inl (SqL.of B5.I.ew), rfl, vi_flat _, _, rfl, ?_⟩
              rw [mem_vi, decide_eq_true (show c ∈ ws by rw [ews]; exact c1)]
              exact iteF ⟨rfl, rfl⟩
            rintro σ' G1 ⟨eq, rfl⟩
            subst σ'
            refine ⟨fun σ' H' => σ' = S0 ∧ H' = G1, ?_, ?_⟩
            · subst eS
              refine ⟨_, rfl, q5, A.CY, dx, _, _, rfl, g, T.cTY, T.yPlace, fdY_place _ _, _, rfl, _, _, rfl, rfl, _, rfl, ?_⟩
              rw [decide_eq_false (show ¬ ((c : Nat) : Int) ≤ (p : Nat) by omega)]
              exact iteF ⟨rfl, rfl⟩
            rintro σ' G2 ⟨eq, rfl⟩
            subst σ'
            subst eS
            refine ⟨fun σ' H' => ∃ q7 : Addr, σ' = [some (.ref r), some (.int w), some (.ref W), some (.ref D), some (.int p), some (.ref q5), some (.ref q6), some (.ref q7), none] ∧ Same G2 H' ∧ H' q7 = some (.lst (vi (kidL ks.length w ((c - 1) / w)))), ?_, ?_⟩
            · refine ⟨_, rfl, _, rfl, r, _, rfl, .inl (SqL.of B5.I.er), _, rfl, _, rfl, q5, A.CY, dx, _, _, rfl, g, T.cTY, T.yPlace, fdY_place _ _, w, c, rfl, hw, by omega, ?_⟩
              have hdv := Nat.div_le_self (c - 1) w
              refine ⟨w, ks.length, (c - 1) / w, by rw [List.length_map]; rfl, hw, by omega, by omega, fun G3 q7 s3 n3 e3 => ⟨q7, rfl, s3, e3⟩⟩
            rintro σ' G3 ⟨q7, rfl, s3, e7⟩
            have B8 := B5'.same s3
            have B9 := B5.same s3
            obtain ⟨dx, g⟩ := id B8.at'
            refine ⟨fun σ' H' => σ' = [some (.ref r), some (.int w), some (.ref W), some (.ref D), some (.int p), some (.ref q5), some (.ref q6), some (.ref q7), none] ∧ H' = G3, ?_, ?_⟩
            · refine ⟨_, rfl, q5, A.CY, dx, _, _, rfl, g, T.cTY, T.yOther, fdY_other _ _, _, rfl, q7, _, rfl, .inl (SqL.of e7), rfl, vi_flat _, _, rfl, ?_⟩
              rw [mem_vi, decide_eq_true o1]
              exact iteF ⟨rfl, rfl⟩
            rintro σ' G4 ⟨rfl, rfl⟩
            refine ⟨_, rfl, _, rfl, q5, A.CY, dx, _, _, rfl, g, T.cTY, T.yOther, fdY_other _ _, r, _, _, _, rfl, rfl, SqL.of B8.I.er, key_at hon, ?_⟩
            refine ⟨_, rfl, _, rfl, q5, A.CY, dx, _, _, rfl, g, T.cTY, T.yPlace, fdY_place _ _, r, _, _, _, rfl, rfl, SqL.of B8.I.er, key_at (show c < ks.length by omega), _, _, rfl, rfl, _, rfl, ?_⟩
            rw [decide_eq_true o2]
            exact iteF ⟨_, rfl, .inr ⟨c, hbad, B9⟩⟩
        rintro σ' H8 ⟨x7', rfl, B8⟩
        obtain ⟨xs, e6, hx1, hxp, I8, eD8⟩ : ∃ xs, H8 q6 = some (.lst xs) ∧ xs.length ≤ 1 ∧ vi ([p].filter (freeB w ks)) = List.replicate xs.length (V.int (p : Nat)) ∧ UrI A r W ks ws H H8 ∧ H8 D = some (.lst (vi as)) := by
          rcases B8 with ⟨hfree, t, u, B⟩ | ⟨c, hbad, B⟩
          · refine ⟨_, B.e6, Nat.le_refl _, ?_, B.I, B.eD⟩
            rw [List.filter_cons_of_pos (show freeB w ks p = true from decide_eq_true hfree)]
            rfl
          · refine ⟨_, B.e6, Nat.zero_le _, ?_, B.I, B.eD⟩
            rw [List.filter_cons_of_neg (by rw [show freeB w ks p = false from decide_eq_false (by rw [hbad]; intro z; cases z)]; exact Bool.false_ne_true)]
            rfl
        refine ⟨_, rfl, _, rfl, q6, rfl, ⟨_, SqL.of e6⟩, fun D2 nD2 => ?_⟩
        refine lc_it (walk_list (xs := xs)) (fun i H' => Acc H8 D2 (List.replicate i (V.int (p : Nat))) H') (Acc.start nD2) (fun i H' _ ac => SqL.of (ac.s _ _ e6)) ?_ ?_
        · rintro i y G1o G1 hi2 ac ⟨rfl, hy⟩
          refine ⟨rfl, _, rfl, _, ac.a, small1000 (by rw [List.length_replicate]; omega), ?_⟩
          rw [List.replicate_succ']
          exact ac.push
        · intro G ac
          refine ⟨D, D2, _, _, rfl, rfl, ac.s _ _ eD8, ac.a, Nat.le_of_lt (small1000 (by rw [vi_len, List.length_replicate]; omega)), fun D3 nD3 => ?_⟩
          refine ⟨⟨D3, _, _, _, _, rfl, ?_⟩, I8.same (ac.s.trans (Same.up nD3))⟩
          rw [upd_same, vi_app, hxp]
      · rintro σ' H3 ⟨⟨D, x4, x5, x6, x7, rfl, eD⟩, I3⟩
        rw [vi_len, List.take_length] at eD
        exact ⟨D, x4, x5, x6, x7, rfl, I3, eD⟩
    rintro σ' H2 ⟨D, x4, x5, x6, x7, rfl, I2, eD⟩
    have hpd : ∀ {G : Hp} {a : Addr}, Sq G a (ks.map V.int) → HpD G a w ks := fun h => ⟨hw, ⟨h, by omega, hb⟩, hf, hnd, h1⟩
    have elw : ws.filter (freeB w ks) = lastP w ks := by rw [ews]; rfl
    rw [elw, vi_wz] at eD
    refine ⟨fun σ' H' => σ' = [some (.ref r), some (.int w), some (.ref W), some (.ref D), x4, x5, x6, x7, none] ∧ UrI A r W ks ws H H' ∧ H' D = some (.lst ((wz (lastP w ks)).map V.int)), ?_, ?_⟩
    · refine ⟨_, rfl, _, rfl, rfl, rfl, r, w, ks, rfl, hpd (.inl I2.er), I2.t, fun H3 q3 e3 t3 eq => ?_⟩
      rw [vi_wz] at eq
      have I3 := I2.ext e3 t3
      have eD3 := e3 _ _ eD (fun _ z => nomatch z)
      refine ⟨_, rfl, .list ((wz (lastP w ks)).map PyData.int), .list ((wz (lastP w ks)).map PyData.int), .lst (SqL.of eq) (ints_dp _ _ _), .lst (SqL.of eD3) (ints_dp _ _ _), shaped_ints _, shaped_ints _, _, rfl, ?_⟩
      rw [ints_eqvL, decide_eq_true rfl]
      exact iteF ⟨rfl, I3, eD3⟩
    rintro σ' H3 ⟨rfl, I3, eD3⟩
    refine ⟨_, rfl, r, _, rfl, .inl ⟨SqL.of I3.er, fun t nt => ?_⟩⟩
    have s4 := Same.up (o := .tup (ks.map V.int)) nt
    have I4 := I3.same s4
    have eD4 := s4 _ _ eD3
    refine ⟨_, rfl, rfl, rfl, t, w, ks, rfl, hpd (.inr upd_same), I4.t, fun H5 q5 e5 t5 eq => ?_⟩
    rw [vi_wz] at eq
    have I5 := I4.ext e5 t5
    have eD5 := e5 _ _ eD4 (fun _ z => nomatch z)
    refine ⟨_, rfl, .list ((wz (lastP w ks)).map PyData.int), .list ((wz (lastP w ks)).map PyData.int), .lst (SqL.of eq) (ints_dp _ _ _), .lst (SqL.of eD5) (ints_dp _ _ _), shaped_ints _, shaped_ints _, ?_⟩
    rw [ints_eqvL, decide_eq_true rfl]
    exact q H5 I5.e I5.t
theorem b_lur (T : Tx K mg A) : L2.Binds K A.d__law_undone_right ["row", "wide"] [] := T.F__law_undone_right.binds fun _ _ _ _ _ _ us hl => match us, hl with | [_, _], _ => rfl

end
end Tw

set_option Elab.async false
set_option linter.all false
set_option maxRecDepth 100000
set_option maxHeartbeats 2000000
namespace Tw
open PySem PySem.Spec PyProof.Rows L2
section
variable {P : Program} {w : World} {K : PySem.W.Frag} {mg : Str → Option Value} {base : Heap} {A : Ad}
open LamX (ExtN Tabs TabS)
/-- the draws: a list of the script and of a number -/
structure DrAt (K : PySem.W.Frag) (H : Hp) (d a : Addr) (ns : List Int) (k : Nat) : Prop where
  l : H d = some (.lst [.ref a, .int k])
  n : a ≠ d ∨ ∀ H', SqL K H' a (ns.map V.int)
  s : SqL K H a (ns.map V.int)
  h : ns.length ≤ 63
theorem DrAt.start {K : PySem.W.Frag} {H : Hp} {d a : Addr} {ns : List Int} (ha : SqL K H a (ns.map V.int)) (hl : ns.length ≤ 63) (hd : H d = none) : DrAt K (upd H d (.lst [.ref a, .int 0])) d a ns 0 := by
  refine ⟨upd_same, ?_, (Same.up hd).seq ha, hl⟩
  rcases ha with (h | ⟨o, h⟩) | h
  · exact .inl (ne_of_none h hd)
  · exact .inl (ne_of_none h hd)
  · exact .inr fun H' => .inr h
structure L4 (K : PySem.W.Frag) (A : Ad) (d a q5 : Addr) (ns rs : List Int) (k : Nat) (H : Hp) : Prop where
  dr : DrAt K H d a ns k
  t : Tabs (TT A) H
  row : H q5 = some (.lst (rs.map V.int))
theorem DrAt.same {K : PySem.W.Frag} {H H' : Hp} {d a : Addr} {ns : List Int} {k : Nat} (h : DrAt K H d a ns k) (s : Same H H') : DrAt K H' d a ns k := ⟨s _ _ h.l, h.n, s.seq h.s, h.h⟩
theorem DrAt.ext {K : PySem.W.Frag} {H H' : Hp} {d a : Addr} {ns : List Int} {k : Nat} (h : DrAt K H d a ns k) (e : ExtN H H') : DrAt K H' d a ns k := ⟨e _ _ h.l (fun ps z => nomatch z), h.n, e.sqL h.s, h.h⟩
theorem L4.ext {d a q5 : Addr} {ns rs : List Int} {k : Nat} {H H' : Hp} (h : L4 K A d a q5 ns rs k H) (e : ExtN H H') (t : Tabs (TT A) H') : L4 K A d a q5 ns rs k H' := ⟨h.dr.ext e, t, e _ _ h.row (fun ps z => nomatch z)⟩
theorem L4.same {d a q5 : Addr} {ns rs : List Int} {k : Nat} {H H' : Hp} (h : L4 K A d a q5 ns rs k H) (s : Same H H') : L4 K A d a q5 ns rs k H' := h.ext (extN_of s) (h.t.ext s)
theorem b_arm (T : Tx K mg A) : L2.Binds K A.d__law_arms ["draw"] [] := T.F__law_arms.binds fun _ _ _ _ _ _ us hl => match us, hl with | [_], _ => rfl
theorem b_keys (T : Tx K mg A) : L2.Binds K A.d__law_keys ["draw", "most", "span"] [] := T.F__law_keys.binds fun _ _ _ _ _ _ us hl => match us, hl with | [_, _, _], _ => rfl
theorem b_lh (T : Tx K mg A) : L2.Binds K A.d__law_heap ["keys", "wide"] [] := T.F__law_heap.binds fun _ _ _ _ _ _ us hl => match us, hl with | [_, _], _ => rfl
theorem b_lun (T : Tx K mg A) : L2.Binds K A.d__law_unlike ["draw", "many"] [] := T.F__law_unlike.binds fun _ _ _ _ _ _ us hl => match us, hl with | [_, _], _ => rfl
theorem b_pick (T : Tx K mg A) : L2.Binds K A.d__law_pick ["draw", "things"] [] := T.F__law_pick.binds fun _ _ _ _ _ _ us hl => match us, hl with | [_, _], _ => rfl
theorem b_take (T : Tx K mg A) : L2.Binds K A.d__law_take ["draw", "many"] [] := T.F__law_take.binds fun _ _ _ _ _ _ us hl => match us, hl with | [_, _], _ => rfl
/-- what stood, but for what stands at d -/
def But (d : Addr) (H H' : Hp) : Prop := ∀ b o, b ≠ d → H b = some o → H' b = some o
theorem But.of {d : Addr} {H H' : Hp} (s : Same H H') : But d H H' := fun b o _ e => s b o e
theorem But.trans {d : Addr} {H H1 H2 : Hp} (a : But d H H1) (b : But d H1 H2) : But d H H2 := fun c o n e => b c o n (a c o n e)
theorem cut63 (xs : List V) (h : xs.length ≤ 63) : cutV xs none (some 63) = xs := by
  unfold cutV
  rw [HT.sIx_none, show (63 : Int) = ((63 : Nat) : Int) from rfl, HT.sIx_nat, List.drop_zero, Nat.min_eq_right h, Nat.sub_zero, List.take_length]
def spNum (K : PySem.W.Frag) : Sp := fun vs H Q _ => ∃ (a : Addr) (ns : List Int) (i : Nat), vs = [.ref a, .int i] ∧ SqL K H a (ns.map V.int) ∧ ns.length ≤ 63 ∧ i < 1000000 ∧ ∀ H' r, Same H H' → Q (.int r) H'
theorem ok_num (T : Tx K mg A) : FnOk P w K mg base CX0 2 A.f__law_number A.d__law_number ["script", "index"] (spNum K) := by
  refine T.F__law_number.ok sc__law_number (fun vs H Q E h => ?_) (fun cdv B outer s H vs Q E hr h => ?_)
  · obtain ⟨a, ns, i, rfl, _⟩ := h
    rfl
  · obtain ⟨a, ns, i, rfl, ha, hl, hi, q⟩ := h
    have nd := sc__law_number.nd
    have hu := hr.units
    refine ⟨_, C8.pss_cut (ps_set (i := 2) nd rfl (Or.inl rfl) (pe_ifExp (pt_cmpR (op_neD hu) (pv 0) (pe_lst pa_nil) (nomark _)) (pe_slice sl_list (pv 0) po_none (po_some pe_int)) (pe_lst (pa_cons pe_int pa_nil))))
      (pss_cons (ps_set (i := 3) nd rfl (Or.inl rfl) (pe_op op_add
        (pe_ix ix_list (pv 2) (pe_op op_mod (pe_callTy call_int1 (by rfl) T.g_int (by decide +kernel) (pa_cons (pv 1) pa_nil)) (pe_callB call_len_seq (by rfl) T.g_len PySem.boot_len (pa_cons (pv 2) pa_nil))) (fun _ _ => rfl))
        (pe_op op_mul pe_int (pe_op op_fdivN (pv 1) (pe_callB call_len_seq (by rfl) T.g_len PySem.boot_len (pa_cons (pv 2) pa_nil))))))
      (pss_cons (ps_par (i := 4) (j := 5) rfl nd rfl rfl (by decide) rfl rfl (pa_cons (pe_op op_mod (pe_callTy call_int1 (by rfl) T.g_int (by decide +kernel) (pa_cons (pv 3) pa_nil)) pe_int)
          (pa_cons (pe_op op_mod (pe_callTy call_int1 (by rfl) T.g_int (by decide +kernel) (pa_cons (pe_op op_fdivN (pv 3) pe_int) pa_nil)) pe_int) pa_nil)) rfl)
      (pss_cons (ps_set (i := 6) nd rfl (Or.inl rfl) (pe_op op_mod (pe_callTy call_int1 (by rfl) T.g_int (by decide +kernel) (pa_cons (pe_callB (cr_sum rfl) (by rfl) T.g_sum (by decide +kernel) (pa_cons (pv 2) pa_nil)) pa_nil)) pe_int))
      (pss_cons (ps_set (i := 7) nd rfl (Or.inl rfl) (pe_op op_mod (pe_callTy call_int1 (by rfl) T.g_int (by decide +kernel) (pa_cons
          (pe_op op_add (pe_op op_add (pe_op op_mul (pe_op op_add (pv 4) (pe_op op_mul pe_int (pv 1))) pe_int) (pe_op op_mul pe_int (pv 5))) (pv 6)) pa_nil)) pe_int))
      (pss_one (ps_ret (pe_op op_add (pe_op op_mul (pe_op op_mod (pe_callTy call_int1 (by rfl) T.g_int (by decide +kernel) (pa_cons
          (pe_op op_mul (pv 7) (pe_op op_add (pe_op op_add (pv 7) (pe_op op_mul pe_int (pv 1))) pe_int)) pa_nil)) pe_int) pe_int) (pv 5)))))))), ?_⟩
    refine ⟨fun σ H1 => ∃ (c : Addr) (cs : List Int), σ = [some (.ref a), some (.int i), some (.ref c), none, none, none, none, none] ∧ Same H H1 ∧ H1 c = some (.lst (cs.map V.int)) ∧ 0 < cs.length ∧ cs.length ≤ 63, ?_, ?_⟩
    · refine ⟨_, rfl, Nat.zero_le _, fun l0 hl0 => ?_⟩
      have hs0 : Same H (upd H l0 (.lst [])) := Same.up hl0
      refine ⟨.list (ns.map PyData.int), .list [], .lst (hs0.seq ha) (ints_dp _ _ _), .lst (SqL.of upd_same) .nil, ?_, rfl, _, rfl, ?_⟩
      · exact shaped_ints _
      · rw [emp_eqv]
        by_cases e : ns = []
        · rw [decide_eq_true e]
          refine iteF ⟨by show 1 ≤ sizeLine; decide, fun l1 hl1 => ⟨l1, [5], rfl, hs0.trans (Same.up hl1), upd_same, by decide, by decide⟩⟩
        · rw [decide_eq_false e]
          refine iteT ⟨_, rfl, _, rfl, a, _, rfl, hs0.seq ha, fun l1 hl1 => ⟨l1, ns, rfl, hs0.trans (Same.up hl1), ?_, ?_, hl⟩⟩
          · rw [upd_same]
            exact congrArg (fun z => some (HO.lst z)) (cut63 _ (by rw [List.length_map]; exact hl))
          · exact List.length_pos_iff.mpr e
    · rintro σ H1 ⟨c, cs, rfl, s1, hc, h0, h63⟩
      have hq := SqL.of (K := K) hc
      have hL : ((cs.map V.int).length : Int) = (cs.length : Int) := by rw [List.length_map]
      have hm0 : 0 ≤ (i : Int) % (cs.length : Int) := Int.emod_nonneg _ (by omega)
      have hm1 : (i : Int) % (cs.length : Int) < (cs.length : Int) := Int.emod_lt_of_pos _ (by omega)
      obtain ⟨j, hj⟩ : ∃ j : Nat, (i : Int) % (cs.length : Int) = (j : Int) := ⟨_, (Int.toNat_of_nonneg hm0).symm⟩
      have hjl : j < cs.length := by omega
      have hat : atI (cs.map V.int) ((i : Int) % ((cs.map V.int).length : Int)) = some (V.int cs[j]) := by
        rw [hL, hj]
        exact atI_nat (by rw [List.getElem?_map, List.getElem?_eq_getElem hjl]; rfl)
      refine ⟨_, rfl, _, rfl, .inl ⟨_, rfl, _, rfl, c, _, rfl, .inl hq, _, _, rfl, rfl, ?_, c, _, _, _, rfl, rfl, hq, hat, _, rfl, _, rfl, c, _, rfl, .inl hq, _, _, rfl, rfl, ⟨?_, ?_⟩, _, _, rfl, rfl, .inl ⟨by decide, by decide⟩, _, _, rfl, rfl, ?_⟩⟩
      · show (0 : Int) < ((cs.map V.int).length : Int)
        omega
      · omega
      · omega
      · refine ⟨_, rfl, .inl ⟨_, rfl, _, _, rfl, rfl, by show (0 : Int) < 1000003; decide, ?_⟩⟩
        refine ⟨_, rfl, _, _, rfl, rfl, ⟨by decide, by decide⟩, .inl ⟨_, rfl, _, _, rfl, rfl, by show (0 : Int) < 999983; decide, _, _, rfl, ?_⟩⟩
        refine ⟨_, rfl, c, cs, rfl, hq, .inl ⟨_, rfl, _, _, rfl, rfl, by show (0 : Int) < 65521; decide, ?_⟩⟩
        refine ⟨_, rfl, _, rfl, _, _, rfl, rfl, .inl ⟨by decide, by decide⟩, _, _, rfl, rfl, _, _, rfl, rfl, .inr ⟨by decide, by decide⟩, ?_⟩
        refine ⟨_, rfl, _, _, rfl, rfl, .inl ⟨by decide, by decide⟩, _, _, rfl, rfl, _, rfl, _, _, rfl, rfl, .inl ⟨_, rfl, _, _, rfl, rfl, by show (0 : Int) < 2147483647; decide, ?_⟩⟩
        refine ⟨_, rfl, _, rfl, _, rfl, _, _, rfl, rfl, .inl ⟨by decide, by decide⟩, _, _, rfl, rfl, _, _, rfl, rfl, _, _, rfl, rfl, .inl ⟨?_, ?_⟩, .inl ⟨_, rfl, _, _, rfl, rfl, by show (0 : Int) < 2147483629; decide, ?_⟩⟩
        · have := Int.emod_nonneg ((((cs[j] + 13 * Int.fdiv (i : Int) ((cs.map V.int).length : Int)) % 1000003 + 977 * (i : Int)) * 48271 + 31 * (Int.fdiv (cs[j] + 13 * Int.fdiv (i : Int) ((cs.map V.int).length : Int)) 1000003 % 999983)) + cs.sum % 65521) (show (2147483647 : Int) ≠ 0 by decide)
          omega
        · have := Int.emod_lt_of_pos ((((cs[j] + 13 * Int.fdiv (i : Int) ((cs.map V.int).length : Int)) % 1000003 + 977 * (i : Int)) * 48271 + 31 * (Int.fdiv (cs[j] + 13 * Int.fdiv (i : Int) ((cs.map V.int).length : Int)) 1000003 % 999983)) + cs.sum % 65521) (show (0 : Int) < 2147483647 by decide)
          omega
        · exact ⟨_, _, rfl, rfl, .inr ⟨by decide, by decide⟩, _, rfl, _, _, rfl, rfl, q _ _ s1⟩
theorem b_num (T : Tx K mg A) : L2.Binds K A.d__law_number ["script", "index"] [] := T.F__law_number.binds fun _ _ _ _ _ _ us hl => match us, hl with | [_, _], _ => rfl
theorem But.put {d : Addr} {o : HO} {H : Hp} : But d H (upd H d o) := fun b u n e => by rw [upd_ne n]; exact e
theorem But.seq {d a : Addr} {H H' : Hp} {xs : List V} (s : But d H H') (h : SqL K H a xs) (n : a ≠ d ∨ ∀ H', SqL K H' a xs) : SqL K H' a xs := by
  rcases n with n | n
  rotate_left
  · exact n _
  rcases h with (h | ⟨o, h⟩) | h
  · exact .inl (.inl (s _ _ n h))
  · exact .inl (.inr ⟨o, s _ _ n h⟩)
  · exact .inr h
def spTake (K : PySem.W.Frag) : Sp := fun vs H Q _ => ∃ (d a : Addr) (ns : List Int) (k m : Nat), vs = [.ref d, .int m] ∧ DrAt K H d a ns k ∧ k < 100000 ∧ 0 < m ∧
  ∀ (H' : Hp) (r : Nat), But d H H' → DrAt K H' d a ns (k + 1) → r < m → Q (.int r) H'
theorem ok_take (T : Tx K mg A) : FnOk P w K mg base CX0 3 A.f__law_take A.d__law_take ["draw", "many"] (spTake K) := by
  refine T.F__law_take.ok sc__law_take (fun vs H Q E h => ?_) (fun cdv B outer s H vs Q E hr h => ?_)
  · obtain ⟨d, a, ns, k, m, rfl, _⟩ := h
    rfl
  · obtain ⟨d, a, ns, k, m, rfl, ⟨hl, hn, hs, h63⟩, hk, hm, q⟩ := h
    refine ⟨_, pss_cons (ps_asg (pe_op op_add (pe_ix ix_list (pv 0) pe_int (fun _ _ => rfl)) pe_int) (pg_sub (pv 0) pe_int set_list))
      (pss_one (ps_ret (pe_op op_mod (pe_callTy call_int1 (by rfl) T.g_int (by decide +kernel) (pa_cons
        (pe_call (ok_num T) hr (by rfl) T.m__law_number T.F__law_number.kp (b_num T) .nil pass0 (pa_cons (pe_ix ix_list (pv 0) pe_int (fun _ _ => rfl))
          (pa_cons (pe_callTy call_int1 (by rfl) T.g_int (by decide +kernel) (pa_cons (pe_ix ix_list (pv 0) pe_int (fun _ _ => rfl)) pa_nil)) pa_nil))) pa_nil)) (pv 1)))), ?_⟩
    have at1 : atI [V.ref a, V.int (k : Nat)] 1 = some (V.int (k : Nat)) := rfl
    refine ⟨_, rfl, d, _, _, _, rfl, rfl, SqL.of hl, at1, _, _, rfl, rfl, _, rfl, d, _, _, 1, rfl, rfl, hl, rfl, ?_⟩
    have e1 : upd H d (.lst (([V.ref a, V.int (k : Nat)]).set 1 (V.int ((k : Int) + 1)))) d = some (.lst [V.ref a, V.int ((k + 1 : Nat) : Int)]) := by
      rw [upd_same]
      rfl
    have b1 : But d H (upd H d (.lst (([V.ref a, V.int (k : Nat)]).set 1 (V.int ((k : Int) + 1))))) := But.put
    have s1 := b1.seq hs hn
    refine ⟨_, rfl, d, _, _, _, rfl, rfl, SqL.of e1, rfl, _, rfl, d, _, _, _, rfl, rfl, SqL.of e1, rfl, .inl ⟨_, rfl, a, ns, k + 1, rfl, s1, h63, by omega, fun H2 r s2 => ?_⟩⟩
    refine .inl ⟨_, rfl, _, rfl, _, _, rfl, rfl, by show (0 : Int) < (m : Nat); omega, ?_⟩
    have m0 := Int.emod_nonneg r (show ((m : Nat) : Int) ≠ 0 by omega)
    have m1 := Int.emod_lt_of_pos r (show (0 : Int) < (m : Nat) by omega)
    obtain ⟨z, hz⟩ : ∃ z : Nat, r % (m : Nat) = (z : Int) := ⟨_, (Int.toNat_of_nonneg m0).symm⟩
    have h := q H2 z (b1.trans (But.of s2)) ⟨s2 _ _ e1, hn, s2.seq s1, h63⟩ (by omega)
    rw [← hz] at h
    exact h
def spPick (K : PySem.W.Frag) : Sp := fun vs H Q _ => ∃ (d a b : Addr) (ns zs : List Int) (k : Nat), vs = [.ref d, .ref b] ∧ DrAt K H d a ns k ∧ k < 50000 ∧ H b = some (.lst (zs.map V.int)) ∧ b ≠ d ∧ 0 < zs.length ∧
  ∀ (H' : Hp) (z : Int), But d H H' → DrAt K H' d a ns (k + 1) → z ∈ zs → Q (.int z) H'
theorem ok_pick (T : Tx K mg A) : FnOk P w K mg base CX0 4 A.f__law_pick A.d__law_pick ["draw", "things"] (spPick K) := by
  refine T.F__law_pick.ok sc__law_pick (fun vs H Q E h => ?_) (fun cdv B outer s H vs Q E hr h => ?_)
  · obtain ⟨d, a, b, ns, zs, k, rfl, _⟩ := h
    rfl
  · obtain ⟨d, a, b, ns, zs, k, rfl, dr, hk, hb, hbd, hz, q⟩ := h
    refine ⟨_, pss_one (ps_ret (pe_ix ix_list (pv 1) (pe_call (ok_take T) hr (by rfl) T.m__law_take T.F__law_take.kp (b_take T) .nil pass0 (pa_cons (pv 0) (pa_cons (pe_callB call_len_seq (by rfl) T.g_len PySem.boot_len (pa_cons (pv 1) pa_nil)) pa_nil))) (fun _ _ => rfl))), ?_⟩
    refine ⟨_, rfl, _, rfl, _, rfl, b, _, rfl, .inl (SqL.of hb), d, a, ns, k, (zs.map V.int).length, rfl, dr, by omega, by rw [List.length_map]; exact hz, fun H1 r b1 dr1 hr1 => ?_⟩
    rw [List.length_map] at hr1
    have e : (zs.map V.int)[r]? = some (V.int zs[r]) := by rw [List.getElem?_map, List.getElem?_eq_getElem hr1]; rfl
    exact ⟨b, _, _, _, rfl, rfl, SqL.of (b1 _ _ hbd hb), atI_nat e, q H1 _ b1 dr1 (List.getElem_mem hr1)⟩
def spArm (K : PySem.W.Frag) : Sp := fun vs H Q _ => ∃ (d a : Addr) (ns : List Int) (k : Nat), vs = [.ref d] ∧ DrAt K H d a ns k ∧ k < 50000 ∧
  ∀ (H' : Hp) (w : Nat), But d H H' → DrAt K H' d a ns (k + 1) → (1 ≤ w ∧ w ≤ 4) → Q (.int w) H'
theorem ok_arm (T : Tx K mg A) : FnOk P w K mg base CX0 5 A.f__law_arms A.d__law_arms ["draw"] (spArm K) := by
  refine T.F__law_arms.ok sc__law_arms (fun vs H Q E h => ?_) (fun cdv B outer s H vs Q E hr h => ?_)
  · obtain ⟨d, a, ns, k, rfl, _⟩ := h
    rfl
  · obtain ⟨d, a, ns, k, rfl, dr, hk, q⟩ := h
    refine ⟨_, pss_one (ps_ret (pe_call (ok_pick T) hr (by rfl) T.m__law_pick T.F__law_pick.kp (b_pick T) .nil pass0 (pa_cons (pv 0) (pa_cons (pe_lst (pa_cons pe_int (pa_cons pe_int (pa_cons pe_int (pa_cons pe_int (pa_cons pe_int (pa_cons pe_int pa_nil))))))) pa_nil)))), ?_⟩
    refine ⟨_, rfl, by show 6 ≤ sizeLine; decide, fun b hb => ?_⟩
    have hbd : b ≠ d := fun z => by rw [z, dr.l] at hb; cases hb
    refine ⟨d, a, b, ns, [2, 2, 2, 3, 1, 4], k, rfl, dr.same (Same.up hb), hk, upd_same, hbd, by decide, fun H1 z b1 dr1 hz => ?_⟩
    have h4 : 1 ≤ z ∧ z ≤ 4 := by
      simp only [List.mem_cons, List.not_mem_nil, or_false] at hz
      omega
    obtain ⟨w, rfl⟩ : ∃ w : Nat, z = (w : Int) := ⟨z.toNat, by omega⟩
    exact q H1 w ((But.of (Same.up hb)).trans b1) dr1 ⟨by omega, by omega⟩
def spKeys (K : PySem.W.Frag) : Sp := fun vs H Q _ => ∃ (d a : Addr) (ns : List Int) (k m s : Nat), vs = [.ref d, .int m, .int s] ∧ DrAt K H d a ns k ∧ k < 50000 ∧ m ≤ 12 ∧ 0 < s ∧
  ∀ (H' : Hp) (q : Addr) (ks : List Int) (k' : Nat), But d H H' → DrAt K H' d a ns k' → k' ≤ k + 14 → ks.length ≤ m → (∀ z ∈ ks, -((s : Int) / 2) ≤ z ∧ z < (s : Int) - (s : Int) / 2) → H q = none → H' q = some (.lst (ks.map V.int)) → Q (.ref q) H'
theorem ok_keys (T : Tx K mg A) : FnOk P w K mg base CX0 4 A.f__law_keys A.d__law_keys ["draw", "most", "span"] (spKeys K) := by
  refine T.F__law_keys.ok sc__law_keys (fun vs H Q E h => ?_) (fun cdv B outer s H vs Q E hr h => ?_)
  · obtain ⟨d, a, ns, k, m, s, rfl, _⟩ := h
    rfl
  · obtain ⟨d, a, ns, k, m, sp, rfl, dr, hk, hm, hs, q⟩ := h
    have nd := sc__law_keys.nd
    refine ⟨_, pss_one (ps_ret (pe_lc (own := [("turn", 3)]) (g := gName 3) (tt := tYes) rfl nd (pi_range1 rfl T.g_range (pa_cons (pe_call (ok_take T) hr (by rfl) T.m__law_take T.F__law_take.kp (b_take T) .nil pass0 (pa_cons (pv 0) (pa_cons (pe_op op_add (pv 1) pe_int) pa_nil))) pa_nil))
      (blkOk_by (own := [("turn", 3)]) (N := ["draw", "most", "span", "turn"]) (sc := defScope s__law_keys) (by decide +kernel))
      (fun _ _ _ _ _ => pg_name (i := 3) nd rfl (Or.inl rfl)) (fun _ _ _ _ _ => pts_nil)
      (fun _ _ _ _ _ => pe_op op_sub (pe_call (ok_take T) hr (by rfl) T.m__law_take T.F__law_take.kp (b_take T) .nil pass0 (pa_cons (pv 0) (pa_cons (pv 2) pa_nil)))
        (pe_callTy call_int1 (by rfl) T.g_int (by decide +kernel) (pa_cons (pe_op op_fdiv (pv 2) pe_int) pa_nil))))), ?_⟩
    refine ⟨_, rfl, _, rfl, _, _, rfl, rfl, d, a, ns, k, m + 1, rfl, dr, by omega, by omega, fun H1 r b1 dr1 hr1 => ?_⟩
    refine ⟨_, rfl, by omega, by omega, fun D hD => ?_⟩
    rw [Int.toNat_natCast]
    have hDd : D ≠ d := fun z => by rw [z, dr1.l] at hD; cases hD
    have hD0 : H D = none := by
      cases e : H D with
      | none => rfl
      | some o => rw [b1 D o hDd e] at hD; cases hD
    refine lc_it (walk_range (lo := 0) (n := r)) (fun i H' => ∃ ks : List Int, H' D = some (.lst (ks.map V.int)) ∧ ks.length = i ∧ (∀ z ∈ ks, -((sp : Int) / 2) ≤ z ∧ z < (sp : Int) - (sp : Int) / 2) ∧ But d H H' ∧ DrAt K H' d a ns (k + 1 + i))
      ⟨[], upd_same, rfl, fun z hz => (nomatch hz), ?_, ?_⟩ (fun k H' _ h => trivial) ?_ ?_
    · exact b1.trans (But.of (Same.up hD))
    · exact ⟨(Same.up hD) _ _ dr1.l, dr1.n, (Same.up hD).seq dr1.s, dr1.h⟩
    · rintro i x H2 H3 hi ⟨ks, h1, h2, h3, h4, h5⟩ ⟨rfl, ex⟩
      refine ⟨rfl, ?_⟩
      refine iteT (B := ∃ ks : List Int, H3 D = some (.lst (ks.map V.int)) ∧ ks.length = i + 1 ∧ (∀ z ∈ ks, -((sp : Int) / 2) ≤ z ∧ z < (sp : Int) - (sp : Int) / 2) ∧ But d H H3 ∧ DrAt K H3 d a ns (k + 1 + (i + 1))) ?_
      refine ⟨_, rfl, _, rfl, d, a, ns, k + 1 + i, sp, rfl, h5, by omega, hs, fun H4 v b4 dr4 hv => ?_⟩
      refine ⟨_, rfl, _, _, rfl, rfl, ⟨by decide, by decide⟩, .inl ⟨_, rfl, _, _, rfl, rfl, ?_⟩⟩
      have bf : ∀ zs : List V, But d H (upd H4 D (.lst zs)) := fun zs b o hb e => by
        rw [upd_ne (ne_of_none e hD0)]
        exact b4 _ _ hb (h4 b o hb e)
      refine ⟨_, b4 _ _ hDd h1, small1000 (by rw [List.length_map]; omega), ks ++ [(v : Int) - (sp : Int) / 2], ?_, by rw [List.length_append, h2]; rfl, ?_, ?_, ?_⟩
      · rw [upd_same, List.map_append]
        rfl
      · intro z hz
        rcases List.mem_append.mp hz with hz | hz
        · exact h3 z hz
        · rw [List.mem_singleton.mp hz]
          omega
      · exact bf _
      · exact ⟨by rw [upd_ne hDd.symm]; exact dr4.l, dr4.n, (bf _).seq dr.s dr.n, dr4.h⟩
    · rintro H2 ⟨ks, h1, h2, h3, h4, h5⟩
      exact q _ D ks _ h4 h5 (by omega) (by omega) h3 hD0 h1
/-- a heap by pushes -/
def pushAll (w : Nat) (ks : List Int) : Nat → List Int
  | 0 => []
  | i + 1 => (goUp w 20 (pushAll w ks i ++ [ks.getD i 0]) i [i] 0).1
theorem pushAll_ok {w : Nat} {ks : List Int} (hl : ks.length ≤ 12) : ∀ i, i ≤ ks.length → (pushAll w ks i).length = i ∧ HeapL i w (pushAll w ks i) ∧ (pushAll w ks i).Perm (ks.take i)
  | 0, _ => ⟨rfl, fun c h1 h2 => absurd h2 (by omega), List.Perm.refl _⟩
  | i + 1, hi => by
    obtain ⟨h1, h2, h3⟩ := pushAll_ok (w := w) hl i (by omega)
    have hk : i < ks.length := by omega
    obtain ⟨p1, p2⟩ := push_ok (k := ks.getD i 0) (by omega) (by rw [h1]; exact h2 : HeapL (pushAll w ks i).length w (pushAll w ks i))
    rw [h1] at p1 p2
    have e : pushAll w ks (i + 1) = (goUp w 20 (pushAll w ks i ++ [ks.getD i 0]) i [i] 0).1 := rfl
    rw [e]
    refine ⟨by rw [p2.length_eq, List.length_append, h1]; rfl, p1, p2.trans ?_⟩
    rw [← List.take_append_getElem hk, List.getD_eq_getElem?_getD, List.getElem?_eq_getElem hk]
    exact List.Perm.append_right _ h3
def spLH2 : Sp := fun vs H Q _ => ∃ (a w : Nat) (ks : List Int), vs = [.ref a, .int w] ∧ (1 ≤ w ∧ w ≤ 4) ∧ H a = some (.lst (ks.map V.int)) ∧ ks.length ≤ 12 ∧
  ∀ (H' : Hp) (q : Addr) (ms : List Int), Same H H' → HeapL ms.length w ms → ms.Perm ks → H q = none → H' q = some (.lst (ms.map V.int)) → Q (.ref q) H'
theorem ok_lh (T : Tx K mg A) : FnOk P w K mg base CX0 3 A.f__law_heap A.d__law_heap ["keys", "wide"] spLH2 := by
  refine T.F__law_heap.ok sc__law_heap (fun vs H Q E h => ?_) (fun cdv B outer s H vs Q E hr h => ?_)
  · obtain ⟨a, w, ks, rfl, _⟩ := h
    rfl
  · obtain ⟨a, w, ks, rfl, hw, ha, hl, q⟩ := h
    have nd := sc__law_heap.nd
    refine ⟨_, (pss_cons (ps_set (i := 2) nd rfl (Or.inl rfl) (pe_lst pa_nil))
      (pss_cons (ps_for PassesOwn.never rfl (pi_list (pv 0)) (pg_name (i := 3) nd rfl (Or.inl rfl)) (pss_cons (ps_expr (pe_bm PySem.F.plainAttrs_list PySem.F.slot_list_append PySem.F.type_list_append mt_append (pv 2) (pa_cons (pv 3) pa_nil)))
      (C8.pss_cut (ps_set (i := 4) nd rfl (Or.inl rfl) (pe_op op_sub (pe_callB call_len_seq (by rfl) T.g_len PySem.boot_len (pa_cons (pv 2) pa_nil)) pe_int))
      (pss_one (ps_for PassesOwn.never rfl (pi_range1 rfl T.g_range (pa_cons pe_int pa_nil)) (pg_name (i := 5) nd rfl (Or.inl rfl)) (pss_cons (ps_if (PW.pt (pw_or (pt_cmpR op_eq (pv 4) pe_int (nomark _)) (pw_or1 (pt_cmpR op_le (pe_ix ix_list (pv 2) (pe_call (ok_lpar T) (hr.mono (by decide)) (by rfl) T.m__law_parent T.F__law_parent.kp (b_lpar T) .nil pass0 (pa_cons (pv 1) (pa_cons (pv 4) pa_nil))) (fun _ _ => rfl)) (pe_ix ix_list (pv 2) (pv 4) (fun _ _ => rfl)) (nomark _))))) (pss_one ps_break) pss_nil)
      (pss_cons (ps_set (i := 6) nd rfl (Or.inl rfl) (pe_call (ok_lpar T) (hr.mono (by decide)) (by rfl) T.m__law_parent T.F__law_parent.kp (b_lpar T) .nil pass0 (pa_cons (pv 1) (pa_cons (pv 4) pa_nil))))
      (pss_cons (ps_asg (pe_tup (pa_cons (pe_ix ix_list (pv 2) (pv 6) (fun _ _ => rfl)) (pa_cons (pe_ix ix_list (pv 2) (pv 4) (fun _ _ => rfl)) pa_nil))) (pg_tup rfl (pgs_cons (pg_sub (pv 2) (pv 4) set_list) (pgs_cons (pg_sub (pv 2) (pv 6) set_list) pgs_nil))))
      (pss_one (ps_set (i := 4) nd rfl (Or.inl rfl) (pv 6)))))))))))
      (pss_one (ps_ret (pv 2))))), ?_⟩
    refine ⟨Nat.zero_le _, fun D hD => ?_⟩
    refine ⟨_, rfl, a, rfl, ⟨_, SqL.of ((Same.up hD) _ _ ha)⟩, for_list (K := K) (a := a) (xs := ks.map V.int) (fun i σ H' => ∃ (x3 x4 x5 x6 : Option V), σ = [some (.ref a), some (.int w), some (.ref D), x3, x4, x5, x6] ∧ Acc H D ((pushAll w ks i).map V.int) H')
      ⟨none, none, none, none, rfl, Acc.start hD⟩ (fun i σ H' _ ⟨_, _, _, _, _, ac⟩ => SqL.of (ac.s _ _ ha)) ?_ ?_⟩
    · rintro i x σ H1 hx ⟨x3, x4, x5, x6, rfl, ac⟩
      obtain ⟨hi, rfl⟩ := ints_at hx
      obtain ⟨hml, _, _⟩ := pushAll_ok (w := w) hl i (by omega)
      refine ⟨_, rfl, .inl ⟨rfl, _, SqL.of ac.a⟩, _, rfl, D, _, _, rfl, rfl, ac.a, small1000 (by rw [List.length_map]; omega), ?_⟩
      have ek : ks[i] = ks.getD i 0 := by rw [List.getD_eq_getElem?_getD, List.getElem?_eq_getElem hi]; rfl
      rw [map_one]
      have ac1 : Acc H D ((pushAll w ks i ++ [ks[i]]).map V.int) (upd H1 D (.lst ((pushAll w ks i ++ [ks[i]]).map V.int))) := ac.push
      have hml1 : (pushAll w ks i ++ [ks[i]]).length = i + 1 := by rw [List.length_append, hml]; rfl
      have eR : pushAll w ks (i + 1) = (goUp w 20 (pushAll w ks i ++ [ks[i]]) i [i] 0).1 := by rw [ek]; rfl
      rw [eR]
      generalize pushAll w ks i ++ [ks[i]] = m1 at ac1 hml1
      generalize upd H1 D (.lst (m1.map V.int)) = G1 at ac1
      refine ⟨fun σ' H' => σ' = [some (.ref a), some (.int w), some (.ref D), some (.int ks[i]), some (.int (i : Nat)), x5, x6] ∧ H' = G1, ?_, ?_⟩
      · refine ⟨_, rfl, D, _, rfl, .inl (SqL.of ac1.a), _, _, rfl, rfl, ?_, rfl⟩
        show ([some (.ref a), some (.int w), some (.ref D), some (.int ks[i]), some (V.int (((m1.map V.int).length : Nat) - 1 : Int)), x5, x6] : List (Option V)) = _
        rw [List.length_map, hml1, show (((i + 1 : Nat) : Int) - 1) = (i : Int) by omega]
      rintro σ' H' ⟨rfl, rfl⟩
      refine ⟨20, rfl, by decide, by decide, for_range (n := 20) (fun k σ H' => ∃ (ms : List Int) (p : Nat) (way : List Nat) (lk : Nat) (x3 x5 x6 : Option V), σ = [some (.ref a), some (.int w), some (.ref D), x3, some (.int p), x5, x6] ∧ Acc H D (ms.map V.int) H' ∧ ms.length = i + 1 ∧ p < i + 1 ∧ k ≤ 20 ∧ goUp w 20 m1 i [i] 0 = (goUp w (20 - k) ms p way lk))
        ⟨m1, i, [i], 0, _, _, _, rfl, ac1, hml1, by omega, by omega, rfl⟩ ?_ ?_⟩
      · rintro k σ H2 hk ⟨m2, p, way, lk, y3, y5, y6, rfl, ac2, hml2, hp, hk2, eg⟩
        have ef : 20 - k = (20 - (k + 1)) + 1 := by omega
        rw [ef] at eg
        refine ⟨_, rfl, rfl, _, rfl, ?_⟩
        by_cases h0 : p = 0
        · rw [decide_eq_true (show V.int (p : Nat) = V.int 0 by rw [h0]; rfl)]
          rw [h0, goUp_root] at eg
          rw [eg]
          exact iteT (iteT ⟨_, _, _, _, rfl, ac2⟩)
        · rw [decide_eq_false (show ¬ V.int (p : Nat) = V.int 0 by intro z; injection z with z; omega)]
          have hlt : (p - 1) / w < p := Nat.lt_of_le_of_lt (Nat.div_le_self _ _) (by omega)
          have hq2 : (p - 1) / w < m2.length := by omega
          have hp2 : p < m2.length := by omega
          refine iteF ⟨_, rfl, _, rfl, _, rfl, w, p, rfl, hw, by omega, D, _, _, _, rfl, rfl, SqL.of ac2.a, key_at hq2, _, rfl, _, rfl, D, _, _, _, rfl, rfl, SqL.of ac2.a, key_at hp2, _, _, rfl, rfl, _, rfl, ?_⟩
          by_cases hle : keyAt m2 ((p - 1) / w) ≤ keyAt m2 p
          · rw [decide_eq_true hle]
            rw [goUp_stay h0 (by omega)] at eg
            rw [eg]
            exact iteT ⟨_, _, _, _, rfl, ac2⟩
          rw [decide_eq_false hle]
          refine iteF ?_
          rw [goUp_go h0 (by omega)] at eg
          refine ⟨_, rfl, _, rfl, w, p, rfl, hw, by omega, ?_⟩
          refine ⟨_, rfl, _, rfl, D, _, _, _, rfl, rfl, SqL.of ac2.a, key_at hq2, _, rfl, _, rfl, D, _, _, _, rfl, rfl, SqL.of ac2.a, key_at hp2, by show 2 ≤ sizeLine; decide, fun t ht => ?_⟩
          have ac3 := ac2.same (Same.up (o := .tup [V.int (keyAt m2 ((p - 1) / w)), V.int (keyAt m2 p)]) ht)
          have et : upd H2 t (.tup [V.int (keyAt m2 ((p - 1) / w)), V.int (keyAt m2 p)]) t = some (.tup [V.int (keyAt m2 ((p - 1) / w)), V.int (keyAt m2 p)]) := upd_same
          generalize upd H2 t (.tup [V.int (keyAt m2 ((p - 1) / w)), V.int (keyAt m2 p)]) = G3 at ac3 et
          refine ⟨t, _, rfl, SqT.of et, rfl, _, _, rfl, _, rfl, _, rfl, D, _, _, p, rfl, rfl, ac3.a, ixN_nat (by rw [List.length_map]; exact hp2), ?_⟩
          rw [set_int]
          have ac4 : Acc H D ((m2.set p (keyAt m2 ((p - 1) / w))).map V.int) (upd G3 D (.lst ((m2.set p (keyAt m2 ((p - 1) / w))).map V.int))) := ac3.push
          generalize upd G3 D (.lst ((m2.set p (keyAt m2 ((p - 1) / w))).map V.int)) = G4 at ac4
          refine ⟨_, _, rfl, _, rfl, _, rfl, D, _, _, (p - 1) / w, rfl, rfl, ac4.a, ixN_nat (by rw [List.length_map, List.length_set]; omega), ?_⟩
          rw [set_int, show (m2.set p (keyAt m2 ((p - 1) / w))).set ((p - 1) / w) (keyAt m2 p) = swp m2 p ((p - 1) / w) from rfl]
          exact ⟨rfl, _, rfl, swp m2 p ((p - 1) / w), (p - 1) / w, _, _, _, _, _, rfl, ac4.push, by rw [swp_len]; exact hml2, by omega, by omega, eg⟩
      · rintro σ H2 ⟨m2, p, way, lk, y3, y5, y6, rfl, ac2, hml2, hp, hk2, eg⟩
        rw [show goUp w (20 - 20) m2 p way lk = (m2, way, lk) from rfl] at eg
        rw [eg]
        exact ⟨_, _, _, _, rfl, ac2⟩
    · rintro σ H1 ⟨x3, x4, x5, x6, rfl, ac⟩
      rw [List.length_map] at ac
      obtain ⟨h1, h2, h3⟩ := pushAll_ok (w := w) hl ks.length (Nat.le_refl _)
      rw [List.take_length] at h3
      exact ⟨_, rfl, q _ D _ ac.s (by rw [h1]; exact h2) h3 hD ac.a⟩
def rgI (n : Nat) : List Int := (List.range n).map fun i => ((i : Nat) : Int)
theorem rgI_len (n : Nat) : (rgI n).length = n := by
  unfold rgI
  rw [List.length_map, List.length_range]
theorem rgI_pl (n : Nat) : pl n = (rgI n).map V.int := by
  unfold pl rgI
  rw [List.map_map]
  rfl
/-- an order of the first numbers -/
def spLO (K : PySem.W.Frag) : Sp := fun vs H Q _ => ∃ (d a : Addr) (ns : List Int) (k n : Nat), vs = [.ref d, .int n] ∧ DrAt K H d a ns k ∧ k < 50000 ∧ n ≤ 12 ∧
  ∀ (H' : Hp) (q : Addr) (os : List Int) (k' : Nat), But d H H' → DrAt K H' d a ns k' → k' ≤ k + 12 → os.Perm (rgI n) → H q = none → H' q = some (.lst (os.map V.int)) → Q (.ref q) H'
theorem ok_lo (T : Tx K mg A) : FnOk P w K mg base CX0 4 A.f__law_order A.d__law_order ["draw", "many"] (spLO K) := by
  refine T.F__law_order.ok sc__law_order (fun vs H Q E h => ?_) (fun cdv B outer s H vs Q E hr h => ?_)
  · obtain ⟨d, a, ns, k, n, rfl, _⟩ := h
    rfl
  · obtain ⟨d, a, ns, k, n, rfl, dr, hk, hn, q⟩ := h
    have nd := sc__law_order.nd
    refine ⟨_, (pss_cons (ps_par (i := 2) (j := 3) rfl nd rfl rfl (by decide) rfl rfl (pa_cons (pe_listRg rfl (by rfl) T.g_list (prg_1 (by rfl) T.g_range (pv 1))) (pa_cons (pe_lst pa_nil) pa_nil)) rfl)
      (C8.pss_cut (ps_for PassesOwn.never rfl (pi_range1 rfl T.g_range (pa_cons (pv 1) pa_nil)) (pg_name (i := 4) nd rfl (Or.inl rfl)) (pss_one (ps_expr (pe_bm PySem.F.plainAttrs_list PySem.F.slot_list_append PySem.F.type_list_append mt_append (pv 3) (pa_cons (pe_bm PySem.F.plainAttrs_list PySem.F.slot_list_pop PySem.F.type_list_pop mt_popAt (pv 2) (pa_cons (pe_call (ok_take T) (hr.mono (by decide)) (by rfl) T.m__law_take T.F__law_take.kp (b_take T) .nil pass0 (pa_cons (pv 0) (pa_cons (pe_callB call_len_seq (by rfl) T.g_len PySem.boot_len (pa_cons (pv 2) pa_nil)) pa_nil))) pa_nil)) pa_nil)))))
      (pss_one (ps_ret (pv 3))))), ?_⟩
    refine ⟨_, rfl, _, rfl, RgOk.of_le (by omega) (by omega) (by omega) (by omega), fun L nL => ?_⟩
    refine ⟨Nat.zero_le _, fun O nO => ⟨_, _, rfl, ?_⟩⟩
    have sL : Same H (upd H L (.lst (rgV 0 (n : Nat)))) := Same.up nL
    have nO0 := sL.free nO
    have hLO : O ≠ L := fun z => by
      rw [z, upd_same] at nO
      cases nO
    have hLd : L ≠ d := fun z => by rw [z, dr.l] at nL; cases nL
    have hOd : O ≠ d := fun z => by rw [z, dr.l] at nO0; cases nO0
    have s0 : Same H (upd (upd H L (.lst (rgV 0 (n : Nat)))) O (.lst [])) := sL.trans (Same.up nO)
    refine ⟨fun σ' H' => (∃ x4 : Option V, σ' = [some (.ref d), some (.int n), some (.ref L), some (.ref O), x4]) ∧ ∃ os : List Int, H' O = some (.lst (os.map V.int)) ∧ os.Perm (rgI n) ∧ But d H H' ∧ DrAt K H' d a ns (k + n), ?_, ?_⟩
    · refine ⟨_, rfl, _, rfl, by omega, by omega, ?_⟩
      rw [Int.toNat_natCast]
      refine for_it (walk_range (lo := 0) (n := n)) (fun i σ' H' => (∃ x4 : Option V, σ' = [some (.ref d), some (.int n), some (.ref L), some (.ref O), x4]) ∧ ∃ ls os : List Int, H' L = some (.lst (ls.map V.int)) ∧ H' O = some (.lst (os.map V.int)) ∧ (os ++ ls).Perm (rgI n) ∧ os.length = i ∧ But d H H' ∧ DrAt K H' d a ns (k + i))
        ⟨⟨none, rfl⟩, rgI n, [], ?_, upd_same, List.Perm.refl _, rfl, But.of s0, ⟨s0 _ _ dr.l, dr.n, s0.seq dr.s, dr.h⟩⟩ (fun i σ' H' _ _ => trivial) ?_ ?_
      · rw [upd_ne hLO.symm, upd_same, rg_pl, rgI_pl]
      · rintro i x σ' H2 H3 hi ⟨⟨x4, rfl⟩, ls, os, eL, eO, perm, hoi, b2, dr2⟩ ⟨rfl, ex⟩
        have hln := perm.length_eq
        rw [List.length_append, rgI_len] at hln
        refine ⟨_, rfl, .inl ⟨rfl, _, SqL.of eO⟩, _, rfl, .inl ⟨rfl, _, SqL.of eL⟩, _, rfl, _, rfl, L, _, rfl, .inl (SqL.of eL), ?_⟩
        refine ⟨d, a, ns, k + i, ls.length, by rw [List.length_map]; rfl, dr2, by omega, by omega, fun H4 r b4 dr4 hr4 => ?_⟩
        have eL4 := b4 _ _ hLd eL
        have eO4 := b4 _ _ hOd eO
        refine ⟨L, _, _, r, V.int ls[r], rfl, rfl, eL4, by omega, by omega, ?_, ?_, ?_⟩
        · unfold seqIndex?
          rw [List.length_map]
          simp
          omega
        · rw [List.getElem?_map, List.getElem?_eq_getElem hr4]
          rfl
        have bb : ∀ zs zs2 : List V, But d H (upd (upd H4 L (.lst zs)) O (.lst zs2)) := fun zs zs2 b o hb e => by
          rw [upd_ne (ne_of_none e nO0), upd_ne (ne_of_none e nL)]
          exact b4 _ _ hb (b2 b o hb e)
        have eO5 : ∀ zs : List V, upd H4 L (.lst zs) O = some (.lst (os.map V.int)) := fun zs => by rw [upd_ne hLO]; exact eO4
        refine ⟨O, _, _, rfl, rfl, eO5 _, by rw [List.length_map, sizeLine_eq]; omega, ⟨_, rfl⟩, ls.eraseIdx r, os ++ [ls[r]], ?_, ?_, ?_, by rw [List.length_append, hoi]; rfl, bb _ _, ⟨?_, dr4.n, (bb _ _).seq dr.s dr.n, dr4.h⟩⟩
        · rw [upd_ne hLO.symm, upd_same, era_map]
        · rw [upd_same, List.map_append]
          rfl
        · rw [List.append_assoc]
          exact ((at_perm ls r hr4).append_left os).trans perm
        · rw [upd_ne hOd.symm, upd_ne hLd.symm]
          exact dr4.l
      · rintro σ' H2 ⟨⟨x4, rfl⟩, ls, os, eL, eO, perm, hoi, b2, dr2⟩
        have hln := perm.length_eq
        rw [List.length_append, rgI_len] at hln
        obtain rfl : ls = [] := List.length_eq_zero_iff.mp (by omega)
        rw [List.append_nil] at perm
        exact ⟨⟨x4, rfl⟩, os, eO, perm, b2, dr2⟩
    · rintro σ' H2 ⟨⟨x4, rfl⟩, os, eO, perm, b2, dr2⟩
      exact ⟨_, rfl, q H2 O os _ b2 dr2 (by omega) perm nO0 eO⟩
end
end Tw

set_option Elab.async false
set_option linter.all false
set_option maxRecDepth 100000
set_option maxHeartbeats 2000000
namespace Tw
open PySem PySem.Spec PyProof.Rows L2
section
variable {P : Program} {w : World} {K : PySem.W.Frag} {mg : Str → Option Value} {base : Heap} {A : Ad}
open LamX (ExtN Tabs TabS)
theorem b_lo (T : Tx K mg A) : L2.Binds K A.d__law_order ["draw", "many"] [] := T.F__law_order.binds fun _ _ _ _ _ _ us hl => match us, hl with | [_, _], _ => rfl
theorem rgI_mem {n : Nat} {x : Int} (h : x ∈ rgI n) : 0 ≤ x ∧ x < n := by
  unfold rgI at h
  obtain ⟨i, hi, rfl⟩ := List.mem_map.mp h
  have := List.mem_range.mp hi
  omega
theorem But.free {d D : Addr} {H H' : Hp} {o : HO} (b : But d H H') (l : H' d = some o) (n : H' D = none) : H D = none := by
  cases e : H D with
  | none => rfl
  | some u =>
    by_cases h : D = d
    · rw [h, l] at n
      cases n
    · rw [b _ _ h e] at n
      cases n
theorem rgI_nodup (n : Nat) : (rgI n).Nodup := by
  unfold rgI
  refine List.nodup_iff_pairwise_ne.mpr (List.pairwise_map.mpr ((List.nodup_iff_pairwise_ne.mp List.nodup_range).imp fun h z => h (by omega)))
def spLun (K : PySem.W.Frag) : Sp := fun vs H Q _ => ∃ (d a : Addr) (ns : List Int) (k n : Nat), vs = [.ref d, .int n] ∧ DrAt K H d a ns k ∧ k < 40000 ∧ n ≤ 12 ∧
  ∀ (H' : Hp) (q : Addr) (ks : List Int) (k' : Nat), But d H H' → DrAt K H' d a ns k' → k' ≤ k + 14 → ks.length = n → ks.Nodup → (∀ z ∈ ks, -1000 ≤ z ∧ z ≤ 1000) → H q = none → H' q = some (.lst (ks.map V.int)) → Q (.ref q) H'
theorem ok_lun (T : Tx K mg A) : FnOk P w K mg base CX0 6 A.f__law_unlike A.d__law_unlike ["draw", "many"] (spLun K) := by
  refine T.F__law_unlike.ok sc__law_unlike (fun vs H Q E h => ?_) (fun cdv B outer s H vs Q E hr h => ?_)
  · obtain ⟨d, a, ns, k, n, rfl, _⟩ := h
    rfl
  · obtain ⟨d, a, ns, k, n, rfl, dr, hk, hn, q⟩ := h
    have nd := sc__law_unlike.nd
    refine ⟨_, (pss_cons (ps_asg (pe_tup (pa_cons (pe_op op_sub (pe_call (ok_take T) (hr.mono (by decide)) (by rfl) T.m__law_take T.F__law_take.kp (b_take T) .nil pass0 (pa_cons (pv 0) (pa_cons pe_int pa_nil))) pe_int) (pa_cons (pe_op op_add pe_int (pe_call (ok_take T) (hr.mono (by decide)) (by rfl) T.m__law_take T.F__law_take.kp (b_take T) .nil pass0 (pa_cons (pv 0) (pa_cons pe_int pa_nil)))) pa_nil))) (pg_tup rfl (pgs_cons (pg_name (i := 2) nd rfl (Or.inr rfl)) (pgs_cons (pg_name (i := 3) nd rfl (Or.inr rfl)) pgs_nil))))
      (pss_one (ps_ret (pe_lc (own := [("number", 4)]) (g := gName 4) (tt := tYes) rfl nd (pi_list (pe_call (ok_lo T) (hr.mono (by decide)) (by rfl) T.m__law_order T.F__law_order.kp (b_lo T) .nil pass0 (pa_cons (pv 0) (pa_cons (pv 1) pa_nil)))) (blkOk_by (own := [("number", 4)]) (N := ["draw", "many", "low", "step", "number"]) (sc := (defScope s__law_unlike)) (by decide +kernel)) (fun _ _ _ _ _ => pg_name (i := 4) nd rfl (Or.inl rfl)) (fun _ _ _ _ _ => pts_nil) (fun _ _ _ _ _ => (pe_op op_add (pv 2) (pe_op op_mul (pv 3) (pv 4)))))))), ?_⟩
    refine ⟨_, rfl, d, a, ns, k, 50, rfl, dr, by omega, by decide, fun H1 r1 b1 dr1 h1 => ⟨_, _, rfl, rfl, ?_⟩⟩
    refine ⟨_, rfl, d, a, ns, k + 1, 5, rfl, dr1, by omega, by decide, fun H2 r2 b2 dr2 h2 => ⟨_, _, rfl, rfl, by show 2 ≤ sizeLine; decide, fun t nt => ?_⟩⟩
    refine ⟨_, _, rfl, SqT.of upd_same, rfl, _, _, rfl, _, _, rfl, rfl, ?_⟩
    have s3 := Same.up (o := .tup [V.int ((r1 : Nat) - 25), V.int (1 + (r2 : Nat))]) nt
    have dr3 := dr2.same s3
    have b3 := (b1.trans b2).trans (But.of s3)
    generalize upd H2 t (.tup [V.int ((r1 : Nat) - 25), V.int (1 + (r2 : Nat))]) = H3 at s3 dr3 b3
    refine ⟨_, rfl, _, rfl, d, a, ns, k + 1 + 1, n, rfl, dr3, by omega, hn, fun H4 c os k' b4 dr4 hk' perm nc ec => ?_⟩
    have hol : os.length = n := perm.length_eq.trans (rgI_len n)
    have hob : ∀ z ∈ os, 0 ≤ z ∧ z < n := fun z hz => rgI_mem (perm.mem_iff.mp hz)
    have hod : os.Nodup := perm.nodup_iff.mpr (rgI_nodup n)
    refine ⟨c, rfl, ⟨_, SqL.of ec⟩, fun D nD => ?_⟩
    refine lc_it (walk_list (xs := os.map V.int)) (fun i H' => Acc H4 D (((os.take i).map fun z => ((r1 : Nat) - 25 : Int) + (1 + (r2 : Nat)) * z).map V.int) H') (by rw [List.take_zero]; exact Acc.start nD) (fun i H' _ ac => SqL.of (ac.s _ _ ec)) ?_ ?_
    · rintro i x H5 H6 hi ac ⟨rfl, hx⟩
      obtain ⟨hi2, rfl⟩ := ints_at hx
      have hz := hob _ (List.getElem_mem hi2)
      refine ⟨rfl, iteT (B := Acc H4 D (((os.take (i + 1)).map fun z => ((r1 : Nat) - 25 : Int) + (1 + (r2 : Nat)) * z).map V.int) H6) ?_⟩
      refine ⟨_, rfl, _, rfl, _, rfl, _, _, rfl, rfl, .inl ⟨by omega, by omega⟩, _, _, rfl, rfl, _, ac.a, small1000 (by rw [List.length_map, List.length_map, List.length_take]; omega), ?_⟩
      rw [← List.take_append_getElem hi2, List.map_append, List.map_append]
      exact ac.push
    · intro H5 ac
      rw [List.length_map, List.take_length] at ac
      refine q H5 D _ k' ((b3.trans b4).trans (But.of ac.s)) (dr4.same ac.s) (by omega) (by rw [List.length_map, hol]) ?_ ?_ ?_ ac.a
      · refine List.nodup_iff_pairwise_ne.mpr (List.pairwise_map.mpr ((List.nodup_iff_pairwise_ne.mp hod).imp fun {x y} h z => h ?_))
        have e : (1 + (r2 : Int)) * x = (1 + (r2 : Int)) * y := by omega
        exact Int.eq_of_mul_eq_mul_left (by omega) e
      · intro z hz
        obtain ⟨y, hy, rfl⟩ := List.mem_map.mp hz
        obtain ⟨y1, y2⟩ := hob y hy
        have m1 : (1 + (r2 : Int)) * y ≤ 5 * y := Int.mul_le_mul_of_nonneg_right (by omega) y1
        have m2 : 0 ≤ (1 + (r2 : Int)) * y := Int.mul_nonneg (by omega) y1
        omega
      · exact But.free (b3.trans b4) dr4.l nD
abbrev rLn (K : PySem.W.Frag) : List V → Hp → VK → Prop := fun xs H Q => ∃ p ys, xs = [.ref p] ∧ (SqL K H p ys ∨ SqT K H p ys) ∧ Q (.int ys.length) H
theorem repl_any (n : Nat) : (List.replicate n false).any id = false := by
  rw [List.any_eq_false]
  intro x hx
  rw [(List.mem_replicate.mp hx).2]
  exact Bool.false_ne_true
theorem tabs_but {T : List (Addr × Str)} {H H' : Hp} {d : Addr} {xs : List V} (t : Tabs T H) (h : H d = some (.lst xs)) (b : But d H H') : Tabs T H' := fun p hp => by
  obtain ⟨ps, h1, h2, h3⟩ := t p hp
  refine ⟨ps, b _ _ (ne_of h1 h (by intro z; cases z)) h1, h2, fun pos cv hc => ?_⟩
  obtain ⟨c, e1, e2⟩ := h3 pos cv hc
  exact ⟨c, e1, b _ _ (ne_of e2 h (by intro z; unfold LamX.CodeO at z; cases z)) e2⟩
end
end Tw

set_option Elab.async false
set_option linter.all false
set_option maxRecDepth 100000
set_option maxHeartbeats 2000000
namespace Tw
open PySem PySem.Spec PyProof.Rows L2
section
variable {P : Program} {w : World} {K : PySem.W.Frag} {mg : Str → Option Value} {base : Heap} {A : Ad}
open LamX (ExtN Tabs TabS)
/-! the law -/
theorem bd_pa (T : Tx K mg A) : ∃ ds, Vals [V.int 2] ds ∧ L2.Binds K A.d_push_all ["keys", "arms"] ds := by
  refine T.F_push_all.binds0 1 (by simp) rfl (fun D doc pm an cdv ct us ks h1 h2 => ?_)
  match us, ks, h1, h2 with
  | [a], [c], _, _ => exact ⟨_, _, _, _, _, _, rfl, rfl, rfl⟩
theorem bd_mp (T : Tx K mg A) : ∃ ds, Vals [V.int 2] ds ∧ L2.Binds K A.d_most_pushed ["many", "arms"] ds := by
  refine T.F_most_pushed.binds0 1 (by simp) rfl (fun D doc pm an cdv ct us ks h1 h2 => ?_)
  match us, ks, h1, h2 with
  | [a], [c], _, _ => exact ⟨_, _, _, _, _, _, rfl, rfl, rfl⟩
theorem eqP_at {C : Addr} {H : Hp} {a b : Addr} {x x2 : List Int} {y z y2 z2 : Int} {Q : VK} {E : XK} (h1 : AtP C H a x y z) (h2 : AtP C H b x2 y2 z2) {r : Bool} (hr : decide (x = x2 ∧ y = y2 ∧ z = z2) = r) (q : Q (.bl r) H) : spEP K C [.ref a, .ref b] H Q E := ⟨a, _, x, y, z, rfl, h1, .inl ⟨b, x2, y2, z2, rfl, h2, hr ▸ q⟩⟩
def triD (bs : List Int) (c l : Int) : PyData := .tuple [.tuple (bs.map PyData.int), .int c, .int l]
theorem tri_sh (bs : List Int) (c l : Int) : SeqAt.shaped (triD bs c l) = true := by
  simp [SeqAt.shaped, triD, PyData.canLay0, PyData.canLayAll0, ints_lay, PyData.depth, PyData.depthAll]
  have := ints_depth bs
  omega
theorem range_desc (n : Nat) : (((List.range n).map fun (i : Nat) => (i : Int)).reverse).Pairwise (· > ·) := by
  rw [List.pairwise_reverse, List.pairwise_map]
  exact List.pairwise_lt_range.imp fun h => by show (_ : Int) < _; omega
structure Lp (K : PySem.W.Frag) (A : Ad) (d a kq q : Addr) (ns : List Int) (k : Nat) (keys : List Int) (r : List Int × Int × Int) (H : Hp) : Prop where
  dr : DrAt K H d a ns k
  t : Tabs (TT A) H
  ek : H kq = some (.lst (keys.map V.int))
  at' : AtP A.CP H q r.1 r.2.1 r.2.2
theorem Lp.ext {K : PySem.W.Frag} {A : Ad} {d a kq q : Addr} {ns keys : List Int} {k : Nat} {r : List Int × Int × Int} {H H' : Hp} (h : Lp K A d a kq q ns k keys r H) (e : ExtN H H') (t : Tabs (TT A) H') : Lp K A d a kq q ns k keys r H' := ⟨h.dr.ext e, t, e _ _ h.ek (fun _ z => nomatch z), h.at'.ext e⟩
theorem Lp.same {K : PySem.W.Frag} {A : Ad} {d a kq q : Addr} {ns keys : List Int} {k : Nat} {r : List Int × Int × Int} {H H' : Hp} (h : Lp K A d a kq q ns k keys r H) (s : Same H H') : Lp K A d a kq q ns k keys r H' := h.ext (extN_of s) (h.t.ext s)
def OthQ (A : Ad) (pa : List Int × Int × Int) (H : Hp) (x : V) : Prop := (∃ b r0 r1 r2, x = .ref b ∧ AtP A.CP H b r0 r1 r2 ∧ ¬ (pa.1 = r0 ∧ pa.2.1 = r1 ∧ pa.2.2 = r2)) ∨ (∃ b xs, x = .ref b ∧ H b = some (.tup xs))
theorem OthQ.same {A : Ad} {pa : List Int × Int × Int} {H H' : Hp} {x : V} (h : OthQ A pa H x) (s : Same H H') : OthQ A pa H' x := h.imp (fun ⟨b, r0, r1, r2, e, at', n⟩ => ⟨b, r0, r1, r2, e, at'.same s, n⟩) (fun ⟨b, xs, e, z⟩ => ⟨b, xs, e, s _ _ z⟩)
def spLaw (K : PySem.W.Frag) (A : Ad) : Sp := fun vs H Q _ => ∃ (a : Addr) (ns : List Int), vs = [.ref a] ∧ SqL K H a (ns.map V.int) ∧ ns.length ≤ 63 ∧ Tabs (TT A) H ∧ ∀ H', Q (.bl true) H'
theorem ok_law (T : Tx K mg A) (TB : LamX.TabB base mg A.c_undo_push A.P_undo_push) : FnOk P w K mg base CX0 15 A.f_law A.d_law ["script"] (spLaw K A) := by
  obtain ⟨mp, kpa⟩ := kpa T
  obtain ⟨mm, kmp⟩ := kmp T
  obtain ⟨dpa, rpa, bpa⟩ := bd_pa T
  obtain ⟨dmp, rmp, bmp⟩ := bd_mp T
  refine T.F_law.ok sc_law (fun vs H Q E h => ?_) (fun cdv B outer s H vs Q E hr h => ?_)
  · obtain ⟨a, ns, rfl, _⟩ := h
    rfl
  · obtain ⟨a, ns, rfl, ha, hl, hT, q⟩ := h
    have nd := sc_law.nd
    have hu := hr.units
    refine ⟨_, PSs.nox (pss_cons (ps_set (i := 1) nd rfl (Or.inl rfl) (pe_lst (pa_cons (pv 0) (pa_cons pe_int pa_nil))))
      (C8.pss_cut (ps_for PassesOwn.never rfl (pi_range1 rfl T.g_range (pa_cons pe_int pa_nil)) (pg_name (i := 2) nd rfl (Or.inl rfl)) (C8.pss_cut (ps_asg (pe_tup (pa_cons (pe_call (ok_arm T) (hr.mono (by decide)) (by rfl) T.m__law_arms T.F__law_arms.kp (b_arm T) .nil pass0 (pa_cons (pv 1) pa_nil)) (pa_cons (pe_call (ok_keys T) (hr.mono (by decide)) (by rfl) T.m__law_keys T.F__law_keys.kp (b_keys T) .nil pass0 (pa_cons (pv 1) (pa_cons pe_int (pa_cons (pe_call (ok_pick T) (hr.mono (by decide)) (by rfl) T.m__law_pick T.F__law_pick.kp (b_pick T) .nil pass0 (pa_cons (pv 1) (pa_cons (pe_lst (pa_cons pe_int (pa_cons pe_int (pa_cons pe_int pa_nil)))) pa_nil))) pa_nil)))) pa_nil))) (pg_tup rfl (pgs_cons (pg_name (i := 3) nd rfl (Or.inr rfl)) (pgs_cons (pg_name (i := 4) nd rfl (Or.inl rfl)) pgs_nil))))
      (C8.pss_cut (ps_set (i := 5) nd rfl (Or.inr rfl) (pe_callN (ok_pa T) (hr.mono (by decide)) (by rfl) T.m_push_all T.F_push_all.kp kpa pass0 (pa_cons (pv 4) pa_nil) (pk_cons (pv 3) pk_nil)))
      (C8.pss_cut (ps_if (pt_cmpR (op_neD hu) (pe_tup (pa_cons (pe_fld (pv 5) rfl) (pa_cons (pe_fld (pv 5) rfl) (pa_cons (pe_fld (pv 5) rfl) pa_nil)))) (pe_call (ok_lps T) (hr.mono (by decide)) (by rfl) T.m__law_pushed T.F__law_pushed.kp (b_lps T) .nil pass0 (pa_cons (pv 4) (pa_cons (pv 3) pa_nil))) (nomark _)) (pss_one (ps_ret pe_bl)) pss_nil)
      (C8.pss_cut (ps_if (pt_not (pt_val (pe_callB call_isi (by rfl) T.g_isinstance (by decide +kernel) (pa_cons (pv 5) (pa_cons (pe_glob (v := .ref A.CP) (by rfl) T.mCP (relR _)) pa_nil))))) (pss_one (ps_ret pe_bl)) pss_nil)
      (C8.pss_cut (ps_if (PW.pt (pw_and (pt_cmpR op_eq (pv 3) pe_int (nomark _)) (pw_and1 (pt_cmpR (op_ne_own T.eqcP (ok_eP T) (hr.mono (by decide)) (b_eP T) pass0) (pe_call (ok_pa T) (hr.mono (by decide)) (by rfl) T.m_push_all T.F_push_all.kp bpa rpa pass0 (pa_cons (pe_callTy call_tuple_of (by rfl) T.g_tuple (by decide +kernel) (pa_cons (pv 4) pa_nil)) pa_nil)) (pv 5) (nomark _))))) (pss_one (ps_ret pe_bl)) pss_nil)
      (C8.pss_cut (ps_if (pt_cmpR (op_ne_own T.eqcP (ok_eP T) (hr.mono (by decide)) (b_eP T) pass0) (pe_make T.mkCP (ok_iP T) (hr.mono (by decide)) (by rfl) T.mCP (b_iP T) .nil pass0 (pa_cons (pe_callTy call_list_of (by rfl) T.g_list (by decide +kernel) (pa_cons (pe_fld (pv 5) rfl) pa_nil)) (pa_cons (pe_fld (pv 5) rfl) (pa_cons (pe_fld (pv 5) rfl) pa_nil)))) (pv 5) (nomark _)) (pss_one (ps_ret pe_bl)) pss_nil)
      (C8.pss_cut (ps_set (i := 6) nd rfl (Or.inl rfl) (pe_lst (pa_cons (pe_make T.mkCP (ok_iP T) (hr.mono (by decide)) (by rfl) T.mCP (b_iP T) .nil pass0 (pa_cons (pe_fld (pv 5) rfl) (pa_cons (pe_op op_add (pe_fld (pv 5) rfl) pe_int) (pa_cons (pe_fld (pv 5) rfl) pa_nil)))) pa_nil)))
      (C8.pss_cut (ps_set (i := 6) nd rfl (Or.inl rfl) (pe_op op_cat (pv 6) (pe_lst (pa_cons (pe_make T.mkCP (ok_iP T) (hr.mono (by decide)) (by rfl) T.mCP (b_iP T) .nil pass0 (pa_cons (pe_fld (pv 5) rfl) (pa_cons (pe_fld (pv 5) rfl) (pa_cons (pe_op op_add (pe_fld (pv 5) rfl) pe_int) pa_nil)))) pa_nil))))
      (C8.pss_cut (ps_set (i := 6) nd rfl (Or.inl rfl) (pe_op op_cat (pv 6) (pe_lst (pa_cons (pe_make T.mkCP (ok_iP T) (hr.mono (by decide)) (by rfl) T.mCP (b_iP T) .nil pass0 (pa_cons (pe_op (r := rCatU) op_catU (pe_fld (pv 5) rfl) (pe_tup (pa_cons pe_int pa_nil))) (pa_cons (pe_fld (pv 5) rfl) (pa_cons (pe_fld (pv 5) rfl) pa_nil)))) (pa_cons (pe_fld (pv 5) rfl) pa_nil)))))
      (C8.pss_cut (ps_if (pt_val (pe_callB (cr_any rfl) (by rfl) T.g_any (by decide +kernel) (pa_cons (pe_lc (own := [("other", 9)]) (g := gName 9) (tt := tYes) rfl nd (pi_list (pv 6)) (blkOk_by (own := [("other", 9)]) (N := ["script", "draw", "turn", "wide", "keys", "found", "others", "many", "most", "other", "place"]) (sc := (defScope s_law)) (by decide +kernel)) (fun _ _ _ _ _ => pg_name (i := 9) nd rfl (Or.inl rfl)) (fun _ _ _ _ _ => pts_nil) (fun _ _ _ _ _ => (pe_cmpR (op_eq_own T.eqcP (ok_eP T) (hr.mono (by decide)) (b_eP T) pass0) (pv 5) (pv 9) (nomark _)))) pa_nil))) (pss_one (ps_ret pe_bl)) pss_nil)
      (pss_cons (ps_set (i := 7) nd rfl (Or.inl rfl) (pe_callB call_len_seq (by rfl) T.g_len PySem.boot_len (pa_cons (pv 4) pa_nil)))
      (C8.pss_cut (ps_set (i := 8) nd rfl (Or.inl rfl) (pe_callB (cr_sum rfl) (by rfl) T.g_sum (by decide +kernel) (pa_cons (pe_lc (own := [("place", 10)]) (g := gName 10) (tt := tYes) rfl nd (pi_range1 rfl T.g_range (pa_cons (pv 7) pa_nil)) (blkOk_by (own := [("place", 10)]) (N := ["script", "draw", "turn", "wide", "keys", "found", "others", "many", "most", "other", "place"]) (sc := (defScope s_law)) (by decide +kernel)) (fun _ _ _ _ _ => pg_name (i := 10) nd rfl (Or.inl rfl)) (fun _ _ _ _ _ => pts_nil) (fun _ _ _ _ _ => (pe_op op_sub (pe_callB (r := rLn K) call_len_seq (by rfl) T.g_len PySem.boot_len (pa_cons (pe_call (ok_lway T) (hr.mono (by decide)) (by rfl) T.m__law_way T.F__law_way.kp (b_lway T) .nil pass0 (pa_cons (pv 3) (pa_cons (pv 10) pa_nil))) pa_nil)) pe_int))) pa_nil)))
      (C8.pss_cut (ps_if (PW.pt (pw_or (pt_cmpR op_ne (pe_callN (ok_mp T) (hr.mono (by decide)) (by rfl) T.m_most_pushed T.F_most_pushed.kp kmp pass0 (pa_cons (pv 7) pa_nil) (pk_cons (pv 3) pk_nil)) (pv 8) (nomark _)) (pw_or1 (pt_cmpR op_gt (pe_fld (pv 5) rfl) (pv 8) (nomark _))))) (pss_one (ps_ret pe_bl)) pss_nil)
      (C8.pss_cut (ps_if (pt_cmpR op_ne (pe_call (ok_mp T) (hr.mono (by decide)) (by rfl) T.m_most_pushed T.F_most_pushed.kp bmp rmp pass0 (pa_cons (pv 7) pa_nil)) (pe_callN (ok_mp T) (hr.mono (by decide)) (by rfl) T.m_most_pushed T.F_most_pushed.kp kmp pass0 (pa_cons (pv 7) pa_nil) (pk_cons pe_int pk_nil)) (nomark _)) (pss_one (ps_ret pe_bl)) pss_nil)
      (C8.pss_cut (ps_if (pt_cmpR op_ne (pe_fld (pe_callN (ok_pa T) (hr.mono (by decide)) (by rfl) T.m_push_all T.F_push_all.kp kpa pass0 (pa_cons (pe_revL (pe_listRg rfl (by rfl) T.g_list (prg_1 (by rfl) T.g_range (pv 7)))) pa_nil) (pk_cons (pv 3) pk_nil)) rfl) (pv 8) (nomark _)) (pss_one (ps_ret pe_bl)) pss_nil)
      (pss_one (ps_if (pt_not (pt_val (pe_call (ok_lur T TB) (hr.mono (by decide)) (by rfl) T.m__law_undone_right T.F__law_undone_right.kp (b_lur T) .nil pass0 (pa_cons (pe_call (ok_lh T) (hr.mono (by decide)) (by rfl) T.m__law_heap T.F__law_heap.kp (b_lh T) .nil pass0 (pa_cons (pe_call (ok_lun T) (hr.mono (by decide)) (by rfl) T.m__law_unlike T.F__law_unlike.kp (b_lun T) .nil pass0 (pa_cons (pv 1) (pa_cons (pe_op op_add pe_int (pe_call (ok_take T) (hr.mono (by decide)) (by rfl) T.m__law_take T.F__law_take.kp (b_take T) .nil pass0 (pa_cons (pv 1) (pa_cons pe_int pa_nil)))) pa_nil))) (pa_cons (pv 3) pa_nil))) (pa_cons (pv 3) pa_nil))))) (pss_one (ps_ret pe_bl)) pss_nil))))))))))))))))))
      (pss_one (ps_ret pe_bl)))), ?_⟩
    refine ⟨_, rfl, by show 2 ≤ sizeLine; decide, fun d hd => ?_⟩
    have dr0 : DrAt K _ d a ns 0 := DrAt.start ha hl hd
    have t0 : Tabs (TT A) (upd H d (.lst [.ref a, .int 0])) := hT.ext (Same.up hd)
    refine ⟨fun _ _ => True, ?_, fun _ H' _ => q H'⟩
    refine ⟨3, rfl, by decide, by decide, for_range (n := 3) (fun i σ H' => ∃ k x2 x3 x4 x5 x6 x7 x8, σ = [some (.ref a), some (.ref d), x2, x3, x4, x5, x6, x7, x8, none, none] ∧ DrAt K H' d a ns k ∧ Tabs (TT A) H' ∧ k ≤ 60 * i) ⟨0, none, none, none, none, none, none, none, rfl, dr0, t0, by omega⟩ ?_ (fun _ _ _ => trivial)⟩
    rintro i σ H1 hi ⟨k, x2, x3, x4, x5, x6, x7, x8, rfl, dr1, t1, hk⟩
    generalize ex2 : some (V.int ((0 : Int) + (i : Nat))) = z2
    -- the keys
    refine ⟨fun σ' H' => ∃ (w : Nat) (q4 : Addr) (ks : List Int) (k' : Nat), σ' = [some (.ref a), some (.ref d), z2, some (.int w), some (.ref q4), x5, x6, x7, x8, none, none] ∧ DrAt K H' d a ns k' ∧ Tabs (TT A) H' ∧ k' ≤ k + 18 ∧ ks.length ≤ 12 ∧ (∀ z ∈ ks, -40 ≤ z ∧ z ≤ 40) ∧ (1 ≤ w ∧ w ≤ 4) ∧ H' q4 = some (.lst (ks.map V.int)) ∧ q4 ≠ d, ?_, ?_⟩
    · subst ex2
      refine ⟨_, rfl, d, a, ns, k, rfl, dr1, by omega, fun H2 w b2 dr2 hw => ?_⟩
      have t2 := tabs_but t1 dr1.l b2
      refine ⟨_, rfl, _, rfl, by show 3 ≤ sizeLine; decide, fun b hb => ?_⟩
      have hbd : b ≠ d := fun z => by rw [z, dr2.l] at hb; cases hb
      have s3' := Same.up (o := .lst [V.int 3, V.int 9, V.int 40]) hb
      have dr3' := dr2.same s3'
      have t3' := t2.ext s3'
      refine ⟨d, a, b, ns, [3, 9, 40], k + 1, rfl, dr3', by omega, upd_same, hbd, by show 0 < 3; decide, fun H3 z b3 dr3 hz => ?_⟩
      have t3 := tabs_but t3' dr3'.l b3
      have hz2 : 0 < z ∧ z ≤ 40 := by
        simp only [List.mem_cons, List.not_mem_nil, or_false] at hz
        omega
      obtain ⟨sp, rfl⟩ : ∃ sp : Nat, z = (sp : Int) := ⟨z.toNat, by omega⟩
      refine ⟨d, a, ns, k + 1 + 1, 12, sp, rfl, dr3, by omega, by decide, by omega, fun H4 q4 ks k' b4 dr4 hk' hkl hkb q40 hq4 => ?_⟩
      have t4 := tabs_but t3 dr3.l b4
      refine ⟨by show 2 ≤ sizeLine; decide, fun t nt => ?_⟩
      have s5 := Same.up (o := .tup [V.int w, V.ref q4]) nt
      refine ⟨t, _, rfl, SqT.of upd_same, rfl, _, _, rfl, _, _, rfl, rfl, w, q4, ks, k', rfl, dr4.same s5, t4.ext s5, by omega, hkl, fun z hz => ?_, hw, s5 _ _ hq4, fun z => by rw [z, dr3.l] at q40; cases q40⟩
      have := hkb z hz
      omega
    rintro σ' H2 ⟨w1, q4, ks, k2, rfl, dr2, t2, hk2, hkl, hkb, hw, e4, h4d⟩
    clear dr1 t1
    have hkb9 : ∀ z ∈ ks, -1000000000 ≤ z ∧ z ≤ 1000000000 := fun z hz => by have := hkb z hz; omega
    -- pushed
    refine ⟨fun σ' H' => ∃ (q5 : Addr), σ' = [some (.ref a), some (.ref d), z2, some (.int w1), some (.ref q4), some (.ref q5), x6, x7, x8, none, none] ∧ Lp K A d a q4 q5 ns k2 ks (paL w1 ks ks.length) H', ?_, ?_⟩
    · refine ⟨_, rfl, _, rfl, rfl, rfl, q4, w1, ks, rfl, hw, ⟨.inl e4, hkl, hkb9⟩, fun H3 q5 s3 at3 => ?_⟩
      exact ⟨q5, rfl, dr2.same s3, t2.ext s3, s3 _ _ e4, at3⟩
    rintro σ' H3 ⟨q5, rfl, L3⟩
    clear dr2 t2 e4
    obtain ⟨pa, epa⟩ : ∃ pa, pa = paL w1 ks ks.length := ⟨_, rfl⟩
    have hpl : pa.1.length = ks.length := by rw [epa]; exact pa_len (w := w1) hkl (Nat.le_refl _)
    have hpm : pa.2.1 ≤ mostL w1 ks.length := by rw [epa]; exact pa_most hw hkl _ (Nat.le_refl _)
    rw [← epa] at L3
    generalize eS : ([some (.ref a), some (.ref d), z2, some (.int w1), some (.ref q4), some (.ref q5), x6, x7, x8, none, none] : L2.St) = S0
    -- as the law says
    refine ⟨fun σ' H' => σ' = S0 ∧ Lp K A d a q4 q5 ns k2 ks pa H', ?_, ?_⟩
    · subst eS
      obtain ⟨dx, u0, g, g0⟩ := id L3.at'
      refine ⟨_, rfl, q5, A.CP, dx, _, _, rfl, g, T.cTP, T.pRow, fdP_row _ _ _, _, rfl, q5, A.CP, dx, _, _, rfl, g, T.cTP, T.pChanges, fdP_changes _ _ _, _, rfl, q5, A.CP, dx, _, _, rfl, g, T.cTP, T.pLooks, fdP_looks _ _ _, by show 3 ≤ sizeLine; decide, fun t nt => ?_⟩
      have s4 := Same.up (o := .tup [V.ref u0, V.int pa.2.1, V.int pa.2.2]) nt
      have L4 := L3.same s4
      have et := upd_same (H := H3) (a := t) (o := .tup [V.ref u0, V.int pa.2.1, V.int pa.2.2])
      have g04 := s4 _ _ g0
      generalize upd H3 t (.tup [V.ref u0, V.int pa.2.1, V.int pa.2.2]) = H4 at L4 et g04
      refine ⟨_, rfl, _, rfl, q4, w1, ks, rfl, hw, L4.ek, hkl, fun H5 q6 s5 p5 => ?_⟩
      rw [← epa] at p5
      obtain ⟨v0, e5, e50⟩ := p5
      refine ⟨triD pa.1 pa.2.1 pa.2.2, triD pa.1 pa.2.1 pa.2.2, .tup (SqT.of (s5 _ _ et)) (.cons (ints_tup K (s5 _ _ g04)) (.cons (.int _) (.cons (.int _) .nil))), .tup (SqT.of e5) (.cons (ints_tup K e50) (.cons (.int _) (.cons (.int _) .nil))), tri_sh _ _ _, tri_sh _ _ _, _, rfl, ?_⟩
      rw [refl_of (tri_sh _ _ _)]
      exact iteF ⟨rfl, L4.same s5⟩
    rintro σ' H4 ⟨eq, L4⟩
    subst σ'
    clear L3
    refine ⟨fun σ' H' => σ' = S0 ∧ Lp K A d a q4 q5 ns k2 ks pa H', ?_, ?_⟩
    · subst eS
      obtain ⟨dx, u0, g, g0⟩ := id L4.at'
      refine ⟨_, rfl, _, _, .ref A.CP, .ref A.CP, true, rfl, .own A.CP, .base (.ins g T.cTP T.kaP T.knP T.ktkP T.kmP), (by unfold PySem.W.kitOne; rw [if_pos (by simp)]), true, rfl, iteF ⟨rfl, L4⟩⟩
    rintro σ' H5 ⟨eq, L5⟩
    subst σ'
    clear L4
    -- with the default
    refine ⟨fun σ' H' => σ' = S0 ∧ Lp K A d a q4 q5 ns k2 ks pa H', ?_, ?_⟩
    · subst eS
      refine ⟨_, rfl, rfl, _, rfl, ?_⟩
      by_cases h2 : w1 = 2
      · subst h2
        rw [decide_eq_true (show V.int ((2 : Nat) : Int) = V.int 2 from rfl)]
        refine iteT ?_
        refine ⟨_, rfl, q4, _, rfl, .inl ⟨SqL.of L5.ek, fun t nt => ?_⟩⟩
        have s6 := Same.up (o := .tup (ks.map V.int)) nt
        have L6 := L5.same s6
        refine ⟨t, 2, ks, rfl, hw, ⟨.inr upd_same, hkl, hkb9⟩, fun H7 q7 s7 at7 => ?_⟩
        rw [← epa] at at7
        have L7 := L6.same s7
        obtain ⟨d1, f1, g1⟩ := L7.at'.ins
        obtain ⟨d2, f2, g2⟩ := at7.ins
        exact ⟨_, rfl, q7, d2, f2, rfl, g2, .ins g1, eqP_at at7 L7.at' (decide_eq_true ⟨rfl, rfl, rfl⟩) ⟨_, rfl, _, rfl, iteF ⟨rfl, L7⟩⟩⟩
      · rw [decide_eq_false (fun z => h2 (by injection z with z; exact Int.ofNat.inj z))]
        exact iteF (iteF ⟨rfl, L5⟩)
    rintro σ' H6 ⟨eq, L6⟩
    subst σ'
    clear L5
    -- made anew
    refine ⟨fun σ' H' => σ' = S0 ∧ Lp K A d a q4 q5 ns k2 ks pa H', ?_, ?_⟩
    · subst eS
      obtain ⟨dx, u0, g, g0⟩ := id L6.at'
      refine ⟨_, rfl, q5, A.CP, dx, _, _, rfl, g, T.cTP, T.pRow, fdP_row _ _ _, u0, _, rfl, .inr (SqT.of g0), fun l nl => ?_⟩
      have s7 := Same.up (o := .lst (pa.1.map V.int)) nl
      have el := upd_same (H := H6) (a := l) (o := .lst (pa.1.map V.int))
      have L7 := L6.same s7
      have g7 := s7 _ _ g
      generalize upd H6 l (.lst (pa.1.map V.int)) = H7 at el L7 g7
      refine ⟨_, rfl, q5, A.CP, dx, _, _, rfl, g7, T.cTP, T.pChanges, fdP_changes _ _ _, _, rfl, q5, A.CP, dx, _, _, rfl, g7, T.cTP, T.pLooks, fdP_looks _ _ _, fun y dy ny ndy ney => ?_⟩
      refine ⟨y, dy, l, pa.1, pa.2.1, pa.2.2, rfl, upd_same, .inl (new_up (C := A.CP) ny ndy ney _ _ el), fun B1 k1 st1 => ⟨rfl, ?_⟩⟩
      have L8 := L7.same (new_same ny ndy k1)
      obtain ⟨d1, f1, g1⟩ := L8.at'.ins
      obtain ⟨d2, f2, g2⟩ := st1.ins
      exact ⟨_, rfl, y, d2, f2, rfl, g2, .ins g1, eqP_at st1 L8.at' (decide_eq_true ⟨rfl, rfl, rfl⟩) ⟨_, rfl, _, rfl, iteF ⟨rfl, L8⟩⟩⟩
    rintro σ' H7 ⟨eq, L7⟩
    subst σ'
    clear L6
    subst eS
    -- others
    refine ⟨fun σ' H' => ∃ (q6 : Addr) (xs : List V), σ' = [some (.ref a), some (.ref d), z2, some (.int w1), some (.ref q4), some (.ref q5), some (.ref q6), x7, x8, none, none] ∧ Lp K A d a q4 q5 ns k2 ks pa H' ∧ H' q6 = some (.lst xs) ∧ xs.length = 1 ∧ ∀ x ∈ xs, OthQ A pa H' x, ?_, ?_⟩
    · obtain ⟨dx, u0, g, g0⟩ := id L7.at'
      refine ⟨_, rfl, q5, A.CP, dx, _, _, rfl, g, T.cTP, T.pRow, fdP_row _ _ _, _, rfl, q5, A.CP, dx, _, _, rfl, g, T.cTP, T.pChanges, fdP_changes _ _ _, _, _, rfl, rfl, _, rfl, q5, A.CP, dx, _, _, rfl, g, T.cTP, T.pLooks, fdP_looks _ _ _, fun y dy ny ndy ney => ?_⟩
      refine ⟨y, dy, u0, pa.1, pa.2.1 + 1, pa.2.2, rfl, upd_same, .inr (new_up (C := A.CP) ny ndy ney _ _ g0), fun B1 k1 st1 => ⟨rfl, by show 1 ≤ sizeLine; decide, fun l nl => ?_⟩⟩
      have s8 := (new_same ny ndy k1).trans (Same.up (o := .lst [V.ref y]) nl)
      refine ⟨l, _, rfl, L7.same s8, upd_same, rfl, fun x hx => ?_⟩
      rw [List.mem_singleton.mp hx]
      exact .inl ⟨y, _, _, _, rfl, st1.same (Same.up nl), fun z => by have := z.2.1; omega⟩
    rintro σ' H8 ⟨q6, xs, rfl, L8, e6, hxl, hxs⟩
    clear L7
    refine ⟨fun σ' H' => ∃ (q6 : Addr) (xs : List V), σ' = [some (.ref a), some (.ref d), z2, some (.int w1), some (.ref q4), some (.ref q5), some (.ref q6), x7, x8, none, none] ∧ Lp K A d a q4 q5 ns k2 ks pa H' ∧ H' q6 = some (.lst xs) ∧ xs.length = 2 ∧ ∀ x ∈ xs, OthQ A pa H' x, ?_, ?_⟩
    · obtain ⟨dx, u0, g, g0⟩ := id L8.at'
      refine ⟨_, rfl, _, rfl, q5, A.CP, dx, _, _, rfl, g, T.cTP, T.pRow, fdP_row _ _ _, _, rfl, q5, A.CP, dx, _, _, rfl, g, T.cTP, T.pChanges, fdP_changes _ _ _, _, rfl, q5, A.CP, dx, _, _, rfl, g, T.cTP, T.pLooks, fdP_looks _ _ _, _, _, rfl, rfl, fun y dy ny ndy ney => ?_⟩
      refine ⟨y, dy, u0, pa.1, pa.2.1, pa.2.2 + 1, rfl, upd_same, .inr (new_up (C := A.CP) ny ndy ney _ _ g0), fun B1 k1 st1 => ⟨rfl, by show 1 ≤ sizeLine; decide, fun l nl => ?_⟩⟩
      have s9 := (new_same ny ndy k1).trans (Same.up (o := .lst [V.ref y]) nl)
      refine ⟨q6, l, _, _, rfl, rfl, s9 _ _ e6, upd_same, by rw [hxl]; show 1 + 1 ≤ 16777216; decide, fun D nD => ?_⟩
      have sD := Same.up (o := .lst (xs ++ [V.ref y])) nD
      refine ⟨D, _, rfl, L8.same (s9.trans sD), upd_same, by rw [List.length_append, hxl]; rfl, fun x hx => ?_⟩
      rcases List.mem_append.mp hx with hx | hx
      · exact (hxs x hx).same (s9.trans sD)
      · rw [List.mem_singleton.mp hx]
        exact .inl ⟨y, _, _, _, rfl, (st1.same (Same.up nl)).same sD, fun z => by have := z.2.2; omega⟩
    rintro σ' H9 ⟨q6, xs, rfl, L9, e6, hxl, hxs⟩
    clear L8
    refine ⟨fun σ' H' => ∃ (q6 : Addr) (xs : List V), σ' = [some (.ref a), some (.ref d), z2, some (.int w1), some (.ref q4), some (.ref q5), some (.ref q6), x7, x8, none, none] ∧ Lp K A d a q4 q5 ns k2 ks pa H' ∧ H' q6 = some (.lst xs) ∧ xs.length = 4 ∧ ∀ x ∈ xs, OthQ A pa H' x, ?_, ?_⟩
    · obtain ⟨dx, u0, g, g0⟩ := id L9.at'
      refine ⟨_, rfl, _, rfl, q5, A.CP, dx, _, _, rfl, g, T.cTP, T.pRow, fdP_row _ _ _, by show 1 ≤ sizeLine; decide, fun t nt => ?_⟩
      have st := Same.up (o := .tup ([(1 : Int)].map V.int)) nt
      refine ⟨u0, t, _, _, rfl, rfl, st _ _ g0, upd_same, by rw [List.length_map, sizeLine_eq]; show _ + 1 ≤ _; omega, fun c H10 s10 ec => ?_⟩
      have s1t := st.trans s10
      rw [map_one] at ec
      have L10 := L9.same s1t
      have g10 := s1t _ _ g
      have g010 := s1t _ _ g0
      have e610 := s1t _ _ e6
      have hxs10 : ∀ x ∈ xs, OthQ A pa H10 x := fun x hx => (hxs x hx).same s1t
      refine ⟨_, rfl, q5, A.CP, dx, _, _, rfl, g10, T.cTP, T.pChanges, fdP_changes _ _ _, _, rfl, q5, A.CP, dx, _, _, rfl, g10, T.cTP, T.pLooks, fdP_looks _ _ _, fun y dy ny ndy ney => ?_⟩
      refine ⟨y, dy, c, pa.1 ++ [1], pa.2.1, pa.2.2, rfl, upd_same, .inr (new_up (C := A.CP) ny ndy ney _ _ ec), fun B1 k1 st1 => ⟨rfl, ?_⟩⟩
      have sB := new_same ny ndy k1
      refine ⟨_, rfl, q5, A.CP, dx, _, _, rfl, sB _ _ g10, T.cTP, T.pRow, fdP_row _ _ _, by show 2 ≤ sizeLine; decide, fun l nl => ?_⟩
      have sl := Same.up (o := .lst [V.ref y, V.ref u0]) nl
      have s9 := sB.trans sl
      refine ⟨q6, l, _, _, rfl, rfl, s9 _ _ e610, upd_same, by rw [hxl]; show 2 + 2 ≤ 16777216; decide, fun D nD => ?_⟩
      have sD := Same.up (o := .lst (xs ++ [V.ref y, V.ref u0])) nD
      refine ⟨D, _, rfl, L10.same (s9.trans sD), upd_same, by rw [List.length_append, hxl]; rfl, fun x hx => ?_⟩
      rcases List.mem_append.mp hx with hx | hx
      · exact (hxs10 x hx).same (s9.trans sD)
      · simp only [List.mem_cons, List.not_mem_nil, or_false] at hx
        rcases hx with rfl | rfl
        · exact .inl ⟨y, _, _, _, rfl, (st1.same sl).same sD, fun z => by have := congrArg List.length z.1; rw [List.length_append, List.length_singleton] at this; omega⟩
        · exact .inr ⟨u0, _, rfl, sD _ _ (s9 _ _ g010)⟩
    rintro σ' H10 ⟨q6, xs, rfl, L10, e6, hxl, hxs⟩
    clear L9
    generalize eS : ([some (.ref a), some (.ref d), z2, some (.int w1), some (.ref q4), some (.ref q5), some (.ref q6), x7, x8, none, none] : L2.St) = S0
    refine ⟨fun σ' H' => σ' = S0 ∧ Lp K A d a q4 q5 ns k2 ks pa H', ?_, ?_⟩
    · subst eS
      refine ⟨_, rfl, q6, rfl, ⟨_, SqL.of e6⟩, fun D nD => ?_⟩
      refine lc_it (walk_list (xs := xs)) (fun j H' => Acc H10 D (List.replicate j (V.bl false)) H') (Acc.start nD) (fun j H' _ ac => SqL.of (ac.s _ _ e6)) ?_ ?_
      · rintro j y H11o H11 hj ac ⟨rfl, hy⟩
        have oy := (hxs y (List.mem_of_getElem? hy)).same ac.s
        have L11 := L10.same ac.s
        obtain ⟨d1, f1, g1⟩ := L11.at'.ins
        have fin : ∃ acc, H11 D = some (.lst acc) ∧ acc.length < sizeLine ∧ Acc H10 D (List.replicate (j + 1) (V.bl false)) (upd H11 D (.lst (acc ++ [V.bl false]))) := by
          refine ⟨_, ac.a, by rw [List.length_replicate, sizeLine_eq]; omega, ?_⟩
          rw [show List.replicate (j + 1) (V.bl false) = List.replicate j (V.bl false) ++ [V.bl false] from List.replicate_succ']
          exact ac.push
        rcases oy with ⟨b, r0, r1, r2, rfl, atb, hne⟩ | ⟨b, zs, rfl, eb⟩
        · obtain ⟨d2, f2, g2⟩ := atb.ins
          exact ⟨rfl, _, rfl, _, rfl, q5, d1, f1, rfl, g1, .ins g2, eqP_at L11.at' atb (decide_eq_false hne) ⟨_, rfl, fin⟩⟩
        · exact ⟨rfl, _, rfl, _, rfl, q5, d1, f1, rfl, g1, .tup eb, ⟨q5, _, _, _, _, rfl, L11.at', .inr ⟨.type "tuple", .base (.tup eb), T.kiP_tuple, _, rfl, fin⟩⟩⟩
      · intro H11 ac
        refine ⟨D, List.replicate xs.length false, rfl, SqL.of (by rw [ac.a, List.map_replicate]), _, rfl, ?_⟩
        rw [repl_any]
        exact iteF ⟨rfl, L10.same ac.s⟩
    rintro σ' H11 ⟨eq, L11⟩
    subst σ'
    subst eS
    clear L10 e6 hxs
    refine ⟨_, rfl, q4, _, rfl, .inl (SqL.of L11.ek), ?_⟩
    rw [List.length_map]
    have hn12 : ks.length ≤ 12 := hkl
    generalize eS : ([some (.ref a), some (.ref d), z2, some (.int w1), some (.ref q4), some (.ref q5), some (.ref q6), some (.int (ks.length : Nat)), some (.int (mostL w1 ks.length)), none, none] : L2.St) = S0
    -- the most
    refine ⟨fun σ' H' => σ' = S0 ∧ Lp K A d a q4 q5 ns k2 ks pa H', ?_, ?_⟩
    · subst eS
      refine ⟨_, rfl, _, rfl, by omega, by omega, fun D nD => ?_⟩
      rw [Int.toNat_natCast]
      refine lc_it (walk_range (lo := 0) (n := ks.length)) (fun i H' => Acc H11 D (((List.range i).map fun p => ((wayL w1 p).length : Int) - 1).map V.int) H') (Acc.start nD) (fun _ _ _ _ => trivial) ?_ ?_
      · rintro i y H2o H2 hi ac ⟨rfl, hy⟩
        obtain rfl : y = V.int (i : Nat) := by
          rw [hy]
          show V.int (0 + (i : Int)) = _
          rw [Int.zero_add]
        refine ⟨rfl, _, rfl, _, rfl, w1, i, rfl, hw, by omega, fun H3 y s3 ny ey => ?_⟩
        have ac3 := ac.same s3
        refine ⟨y, _, rfl, .inl (SqL.of ey), _, _, rfl, rfl, _, ac3.a, small1000 (by rw [List.length_map, List.length_map, List.length_range]; omega), ?_⟩
        rw [List.range_succ, List.map_append, List.map_append, vi_len]
        exact ac3.push
      · intro H2 ac
        exact ⟨D, _, rfl, SqL.of ac.a, rfl, L11.same ac.s⟩
    rintro σ' H12 ⟨eq, L12⟩
    subst σ'
    clear L11
    refine ⟨fun σ' H' => σ' = S0 ∧ Lp K A d a q4 q5 ns k2 ks pa H', ?_, ?_⟩
    · subst eS
      refine ⟨_, rfl, _, rfl, rfl, rfl, ks.length, w1, rfl, hn12, hw, fun H13 s13 => ?_⟩
      refine ⟨_, rfl, rfl, _, rfl, ?_⟩
      refine ite_b (c := false) (by rw [decide_eq_true rfl]; rfl) (iteF ?_)
      have L13 := L12.same s13
      obtain ⟨dx, u0, g, g0⟩ := id L13.at'
      refine ⟨_, rfl, q5, A.CP, dx, _, _, rfl, g, T.cTP, T.pChanges, fdP_changes _ _ _, _, rfl, _, _, rfl, rfl, _, rfl, ?_⟩
      rw [decide_eq_false (by omega)]
      exact iteF ⟨rfl, L13⟩
    rintro σ' H13 ⟨eq, L13⟩
    subst σ'
    clear L12
    refine ⟨fun σ' H' => σ' = S0 ∧ Lp K A d a q4 q5 ns k2 ks pa H', ?_, ?_⟩
    · subst eS
      refine ⟨_, rfl, ks.length, 2, rfl, hn12, by decide, fun H14 s14 => ?_⟩
      refine ⟨_, rfl, rfl, rfl, ks.length, 2, rfl, hn12, by decide, fun H15 s15 => ?_⟩
      refine ⟨rfl, _, rfl, ?_⟩
      exact ite_b (c := false) (by rw [decide_eq_true rfl]; rfl) (iteF ⟨rfl, L13.same (s14.trans s15)⟩)
    rintro σ' H14 ⟨eq, L14⟩
    subst σ'
    clear L13
    refine ⟨fun σ' H' => σ' = S0 ∧ Lp K A d a q4 q5 ns k2 ks pa H', ?_, ?_⟩
    · subst eS
      refine ⟨_, rfl, _, rfl, RgOk.of_le (by omega) (by omega) (by omega) (by omega), fun l nl => ?_⟩
      have s1 := Same.up (o := .lst (rgV 0 (ks.length : Int))) nl
      refine ⟨l, _, rfl, SqL.of upd_same, fun m nm => ?_⟩
      have s2 := s1.trans (Same.up (o := .lst (rgV 0 (ks.length : Int)).reverse) nm)
      obtain ⟨ds, eds⟩ : ∃ ds, ds = ((List.range ks.length).map fun (i : Nat) => (i : Int)).reverse := ⟨_, rfl⟩
      have hdl : ds.length = ks.length := by rw [eds, List.length_reverse, List.length_map, List.length_range]
      have em : upd (upd H14 l (.lst (rgV 0 (ks.length : Int)))) m (.lst (rgV 0 (ks.length : Int)).reverse) m = some (.lst (ds.map V.int)) := by
        rw [upd_same, rg_pl, eds, List.map_reverse]
        unfold pl
        rw [List.map_map]
        rfl
      refine ⟨_, rfl, rfl, rfl, m, w1, ds, rfl, hw, ⟨.inl em, by omega, fun z hz => ?_⟩, fun H16 y s3 aty => ?_⟩
      · rw [eds, List.mem_reverse] at hz
        obtain ⟨i, hi, rfl⟩ := List.mem_map.mp hz
        have := List.mem_range.mp hi
        omega
      rw [pa_desc hw (by omega) (by rw [eds]; exact range_desc _) _ (Nat.le_refl _), hdl] at aty
      obtain ⟨dy, u0, g, g0⟩ := aty
      refine ⟨y, A.CP, dy, _, _, rfl, g, T.cTP, T.pChanges, fdP_changes _ _ _, _, rfl, rfl, _, rfl, ?_⟩
      exact ite_b (c := false) (by rw [decide_eq_true rfl]; rfl) (iteF ⟨rfl, L14.same (s2.trans s3)⟩)
    rintro σ' H15 ⟨eq, L15⟩
    subst σ'
    subst eS
    clear L14
    obtain ⟨dr15, t15, _, _⟩ := L15
    refine ⟨_, rfl, _, rfl, d, a, ns, k2, 6, rfl, dr15, by omega, by decide, fun H3 m b3 dr3 hm => ?_⟩
    have t3 := tabs_but t15 dr15.l b3
    refine ⟨_, _, rfl, rfl, d, a, ns, k2 + 1, 1 + m, rfl, dr3, by omega, by omega, fun H4 r4 us k' b4 dr4 hk' hul hud hub nr e4 => ?_⟩
    have t4 := tabs_but t3 dr3.l b4
    refine ⟨_, rfl, r4, w1, us, rfl, hw, e4, by omega, fun H5 r5 ms s5 hh hpm nr5 e5 => ?_⟩
    have hml : ms.length = us.length := hpm.length_eq
    refine ⟨_, rfl, r5, w1, ms, rfl, hw, e5, by omega, by omega, fun z hz => by have := hub z (hpm.mem_iff.mp hz); omega, heap_fault rfl hh, hpm.nodup_iff.mpr hud, t4.ext s5, fun H6 e6 t6 => ⟨_, rfl, iteF ?_⟩⟩
    exact ⟨k', _, _, _, _, _, _, _, rfl, (dr4.same s5).ext e6, t6, by omega⟩

end
end Tw

set_option Elab.async false
set_option linter.all false
set_option maxRecDepth 100000
set_option maxHeartbeats 2000000
namespace Tw
open PySem PySem.Spec PyProof.Rows L2
theorem kit_no {K : PySem.W.Frag} {C : Addr} {t : String} (hc : PySem.W.isClsIn K C = true) (ht : PySem.W.typeIn K (.ref C) = some (.type "type")) (hs : PySem.W.subIn K (.type t) (.ref C) = some false) : PySem.W.kitOne K (.type t) (.ref C) = some false := by
  unfold PySem.W.kitOne PySem.W.kitCls
  have h1 : (PySem.W.clsIn K C).isSome = true := hc
  simp only [h1, ht, hs, beq_self_eq_true, Bool.and_self, if_true]
  rfl
theorem kit_no2 {K : PySem.W.Frag} {C D : Addr} (hc : PySem.W.isClsIn K C = true) (ht : PySem.W.typeIn K (.ref C) = some (.type "type")) (hs : PySem.W.subIn K (.ref D) (.ref C) = some false) (hn : (D == C) = false) : PySem.W.kitOne K (.ref D) (.ref C) = some false := by
  unfold PySem.W.kitOne PySem.W.kitCls
  have h1 : (PySem.W.clsIn K C).isSome = true := hc
  have h2 : (Value.ref D == Value.ref C) = false := beq_eq_false_iff_ne.mpr fun z => by
    injection z with z
    exact (beq_eq_false_iff_ne.mp hn) z
  rw [h2, if_neg Bool.false_ne_true]
  simp only [h1, ht, hs, beq_self_eq_true, Bool.and_self, if_true]
theorem all_mk {l : PySem.W.OpenLaw} {w : World} {K : PySem.W.Frag} {h : Heap} {mg : Str → Option Value} (X : K.In h) (G : h.Ns mainGlobals mg) {fa C CS CP CU CY po D_t___init__ D_t_of D_is_heap D_faults D_sift_up D_push D_u_shows D_y_shows D_push_all D_most_pushed D_undo_push D_last_places f_is_integer f_is_integer_from f_is_key f_check_arms f_check_many f_check_place f_check_key f_row_of f_check_different f_t___init__ f_t_of f_t___len__ f_t___contains__ f_t___iter__ f_t___getitem__ f_t_parent f_t_way_to f_t_depth f_is_heap f_faults f_heap_of f_different_heap_of f_z___init__ f_sift_up f_row_before f_push f_check_filled f_p___init__ f_p___eq__ f_u___init__ f_u___eq__ f_u_shows f_y___init__ f_y___eq__ f_y_shows f_push_all f_most_pushed f_undo_push f_last_places f_last_way f_heap_and_way_below f__law_number f__law_take f__law_pick f__law_parent f__law_children f__law_way f__law_arms f__law_keys f__law_order f__law_is_heap f__law_lists f__law_heaps f__law_heap f__law_up f__law_pushed f__law_unlike f__law_ahead f__law_undone_right f_law : Addr} {cc_undo_push PP_undo_push : Addr} {od_is_integer an_is_integer : Option Addr} {sl_is_integer : Array (Option Value)} {oc_is_integer kV_is_integer dc_is_integer pm_is_integer cd_is_integer ct_is_integer : Value} {od_is_integer_from an_is_integer_from : Option Addr} {sl_is_integer_from : Array (Option Value)} {oc_is_integer_from kV_is_integer_from dc_is_integer_from pm_is_integer_from cd_is_integer_from ct_is_integer_from : Value} {od_is_key an_is_key : Option Addr} {sl_is_key : Array (Option Value)} {oc_is_key kV_is_key dc_is_key pm_is_key cd_is_key ct_is_key : Value} {od_check_arms an_check_arms : Option Addr} {sl_check_arms : Array (Option Value)} {oc_check_arms kV_check_arms dc_check_arms pm_check_arms cd_check_arms ct_check_arms : Value} {od_check_many an_check_many : Option Addr} {sl_check_many : Array (Option Value)} {oc_check_many kV_check_many dc_check_many pm_check_many cd_check_many ct_check_many : Value} {od_check_place an_check_place : Option Addr} {sl_check_place : Array (Option Value)} {oc_check_place kV_check_place dc_check_place pm_check_place cd_check_place ct_check_place : Value} {od_check_key an_check_key : Option Addr} {sl_check_key : Array (Option Value)} {oc_check_key kV_check_key dc_check_key pm_check_key cd_check_key ct_check_key : Value} {od_row_of an_row_of : Option Addr} {sl_row_of : Array (Option Value)} {oc_row_of kV_row_of dc_row_of pm_row_of cd_row_of ct_row_of : Value} {od_check_different an_check_different : Option Addr} {sl_check_different : Array (Option Value)} {oc_check_different kV_check_different dc_check_different pm_check_different cd_check_different ct_check_different : Value} {od_t___init__ an_t___init__ : Option Addr} {sl_t___init__ : Array (Option Value)} {oc_t___init__  dc_t___init__ pm_t___init__ cd_t___init__ ct_t___init__ : Value} {od_t_of an_t_of : Option Addr} {sl_t_of : Array (Option Value)} {oc_t_of  dc_t_of pm_t_of cd_t_of ct_t_of : Value} {od_t___len__ an_t___len__ : Option Addr} {sl_t___len__ : Array (Option Value)} {oc_t___len__ kV_t___len__ dc_t___len__ pm_t___len__ cd_t___len__ ct_t___len__ : Value} {od_t___contains__ an_t___contains__ : Option Addr} {sl_t___contains__ : Array (Option Value)} {oc_t___contains__ kV_t___contains__ dc_t___contains__ pm_t___contains__ cd_t___contains__ ct_t___contains__ : Value} {od_t___iter__ an_t___iter__ : Option Addr} {sl_t___iter__ : Array (Option Value)} {oc_t___iter__ kV_t___iter__ dc_t___iter__ pm_t___iter__ cd_t___iter__ ct_t___iter__ : Value} {od_t___getitem__ an_t___getitem__ : Option Addr} {sl_t___getitem__ : Array (Option Value)} {oc_t___getitem__ kV_t___getitem__ dc_t___getitem__ pm_t___getitem__ cd_t___getitem__ ct_t___getitem__ : Value} {od_t_parent an_t_parent : Option Addr} {sl_t_parent : Array (Option Value)} {oc_t_parent kV_t_parent dc_t_parent pm_t_parent cd_t_parent ct_t_parent : Value} {od_t_way_to an_t_way_to : Option Addr} {sl_t_way_to : Array (Option Value)} {oc_t_way_to kV_t_way_to dc_t_way_to pm_t_way_to cd_t_way_to ct_t_way_to : Value} {od_t_depth an_t_depth : Option Addr} {sl_t_depth : Array (Option Value)} {oc_t_depth kV_t_depth dc_t_depth pm_t_depth cd_t_depth ct_t_depth : Value} {od_is_heap an_is_heap : Option Addr} {sl_is_heap : Array (Option Value)} {oc_is_heap  dc_is_heap pm_is_heap cd_is_heap ct_is_heap : Value} {od_faults an_faults : Option Addr} {sl_faults : Array (Option Value)} {oc_faults  dc_faults pm_faults cd_faults ct_faults : Value} {od_heap_of an_heap_of : Option Addr} {sl_heap_of : Array (Option Value)} {oc_heap_of kV_heap_of dc_heap_of pm_heap_of cd_heap_of ct_heap_of : Value} {od_different_heap_of an_different_heap_of : Option Addr} {sl_different_heap_of : Array (Option Value)} {oc_different_heap_of kV_different_heap_of dc_different_heap_of pm_different_heap_of cd_different_heap_of ct_different_heap_of : Value} {od_z___init__ an_z___init__ : Option Addr} {sl_z___init__ : Array (Option Value)} {oc_z___init__ kV_z___init__ dc_z___init__ pm_z___init__ cd_z___init__ ct_z___init__ : Value} {od_sift_up an_sift_up : Option Addr} {sl_sift_up : Array (Option Value)} {oc_sift_up  dc_sift_up pm_sift_up cd_sift_up ct_sift_up : Value} {od_row_before an_row_before : Option Addr} {sl_row_before : Array (Option Value)} {oc_row_before kV_row_before dc_row_before pm_row_before cd_row_before ct_row_before : Value} {od_push an_push : Option Addr} {sl_push : Array (Option Value)} {oc_push  dc_push pm_push cd_push ct_push : Value} {od_check_filled an_check_filled : Option Addr} {sl_check_filled : Array (Option Value)} {oc_check_filled kV_check_filled dc_check_filled pm_check_filled cd_check_filled ct_check_filled : Value} {od_p___init__ an_p___init__ : Option Addr} {sl_p___init__ : Array (Option Value)} {oc_p___init__ kV_p___init__ dc_p___init__ pm_p___init__ cd_p___init__ ct_p___init__ : Value} {od_p___eq__ an_p___eq__ : Option Addr} {sl_p___eq__ : Array (Option Value)} {oc_p___eq__ kV_p___eq__ dc_p___eq__ pm_p___eq__ cd_p___eq__ ct_p___eq__ : Value} {od_u___init__ an_u___init__ : Option Addr} {sl_u___init__ : Array (Option Value)} {oc_u___init__ kV_u___init__ dc_u___init__ pm_u___init__ cd_u___init__ ct_u___init__ : Value} {od_u___eq__ an_u___eq__ : Option Addr} {sl_u___eq__ : Array (Option Value)} {oc_u___eq__ kV_u___eq__ dc_u___eq__ pm_u___eq__ cd_u___eq__ ct_u___eq__ : Value} {od_u_shows an_u_shows : Option Addr} {sl_u_shows : Array (Option Value)} {oc_u_shows  dc_u_shows pm_u_shows cd_u_shows ct_u_shows : Value} {od_y___init__ an_y___init__ : Option Addr} {sl_y___init__ : Array (Option Value)} {oc_y___init__ kV_y___init__ dc_y___init__ pm_y___init__ cd_y___init__ ct_y___init__ : Value} {od_y___eq__ an_y___eq__ : Option Addr} {sl_y___eq__ : Array (Option Value)} {oc_y___eq__ kV_y___eq__ dc_y___eq__ pm_y___eq__ cd_y___eq__ ct_y___eq__ : Value} {od_y_shows an_y_shows : Option Addr} {sl_y_shows : Array (Option Value)} {oc_y_shows  dc_y_shows pm_y_shows cd_y_shows ct_y_shows : Value} {od_push_all an_push_all : Option Addr} {sl_push_all : Array (Option Value)} {oc_push_all  dc_push_all pm_push_all cd_push_all ct_push_all : Value} {od_most_pushed an_most_pushed : Option Addr} {sl_most_pushed : Array (Option Value)} {oc_most_pushed  dc_most_pushed pm_most_pushed cd_most_pushed ct_most_pushed : Value} {od_undo_push an_undo_push : Option Addr} {sl_undo_push : Array (Option Value)} {oc_undo_push  dc_undo_push pm_undo_push  ct_undo_push : Value} {od_last_places an_last_places : Option Addr} {sl_last_places : Array (Option Value)} {oc_last_places  dc_last_places pm_last_places cd_last_places ct_last_places : Value} {od_last_way an_last_way : Option Addr} {sl_last_way : Array (Option Value)} {oc_last_way kV_last_way dc_last_way pm_last_way cd_last_way ct_last_way : Value} {od_heap_and_way_below an_heap_and_way_below : Option Addr} {sl_heap_and_way_below : Array (Option Value)} {oc_heap_and_way_below kV_heap_and_way_below dc_heap_and_way_below pm_heap_and_way_below cd_heap_and_way_below ct_heap_and_way_below : Value} {od__law_number an__law_number : Option Addr} {sl__law_number : Array (Option Value)} {oc__law_number kV__law_number dc__law_number pm__law_number cd__law_number ct__law_number : Value} {od__law_take an__law_take : Option Addr} {sl__law_take : Array (Option Value)} {oc__law_take kV__law_take dc__law_take pm__law_take cd__law_take ct__law_take : Value} {od__law_pick an__law_pick : Option Addr} {sl__law_pick : Array (Option Value)} {oc__law_pick kV__law_pick dc__law_pick pm__law_pick cd__law_pick ct__law_pick : Value} {od__law_parent an__law_parent : Option Addr} {sl__law_parent : Array (Option Value)} {oc__law_parent kV__law_parent dc__law_parent pm__law_parent cd__law_parent ct__law_parent : Value} {od__law_children an__law_children : Option Addr} {sl__law_children : Array (Option Value)} {oc__law_children kV__law_children dc__law_children pm__law_children cd__law_children ct__law_children : Value} {od__law_way an__law_way : Option Addr} {sl__law_way : Array (Option Value)} {oc__law_way kV__law_way dc__law_way pm__law_way cd__law_way ct__law_way : Value} {od__law_arms an__law_arms : Option Addr} {sl__law_arms : Array (Option Value)} {oc__law_arms kV__law_arms dc__law_arms pm__law_arms cd__law_arms ct__law_arms : Value} {od__law_keys an__law_keys : Option Addr} {sl__law_keys : Array (Option Value)} {oc__law_keys kV__law_keys dc__law_keys pm__law_keys cd__law_keys ct__law_keys : Value} {od__law_order an__law_order : Option Addr} {sl__law_order : Array (Option Value)} {oc__law_order kV__law_order dc__law_order pm__law_order cd__law_order ct__law_order : Value} {od__law_is_heap an__law_is_heap : Option Addr} {sl__law_is_heap : Array (Option Value)} {oc__law_is_heap kV__law_is_heap dc__law_is_heap pm__law_is_heap cd__law_is_heap ct__law_is_heap : Value} {od__law_lists an__law_lists : Option Addr} {sl__law_lists : Array (Option Value)} {oc__law_lists kV__law_lists dc__law_lists pm__law_lists cd__law_lists ct__law_lists : Value} {od__law_heaps an__law_heaps : Option Addr} {sl__law_heaps : Array (Option Value)} {oc__law_heaps kV__law_heaps dc__law_heaps pm__law_heaps cd__law_heaps ct__law_heaps : Value} {od__law_heap an__law_heap : Option Addr} {sl__law_heap : Array (Option Value)} {oc__law_heap kV__law_heap dc__law_heap pm__law_heap cd__law_heap ct__law_heap : Value} {od__law_up an__law_up : Option Addr} {sl__law_up : Array (Option Value)} {oc__law_up kV__law_up dc__law_up pm__law_up cd__law_up ct__law_up : Value} {od__law_pushed an__law_pushed : Option Addr} {sl__law_pushed : Array (Option Value)} {oc__law_pushed kV__law_pushed dc__law_pushed pm__law_pushed cd__law_pushed ct__law_pushed : Value} {od__law_unlike an__law_unlike : Option Addr} {sl__law_unlike : Array (Option Value)} {oc__law_unlike kV__law_unlike dc__law_unlike pm__law_unlike cd__law_unlike ct__law_unlike : Value} {od__law_ahead an__law_ahead : Option Addr} {sl__law_ahead : Array (Option Value)} {oc__law_ahead kV__law_ahead dc__law_ahead pm__law_ahead cd__law_ahead ct__law_ahead : Value} {od__law_undone_right an__law_undone_right : Option Addr} {sl__law_undone_right : Array (Option Value)} {oc__law_undone_right kV__law_undone_right dc__law_undone_right pm__law_undone_right cd__law_undone_right ct__law_undone_right : Value} {od_law an_law : Option Addr} {sl_law : Array (Option Value)} {oc_law kV_law dc_law pm_law cd_law ct_law : Value}
    (hfa : mg "law" = some (.ref fa))
    (aC : PySem.W.nsIn K mainGlobals "Tree" = some (some (.ref C)))
    (aCS : PySem.W.nsIn K mainGlobals "Sift" = some (some (.ref CS)))
    (aCP : PySem.W.nsIn K mainGlobals "Pushed" = some (some (.ref CP)))
    (aCU : PySem.W.nsIn K mainGlobals "Undone" = some (some (.ref CU)))
    (aCY : PySem.W.nsIn K mainGlobals "Stuck" = some (some (.ref CY)))
    (a_is_integer : PySem.W.nsIn K mainGlobals "is_integer" = some (some (.ref f_is_integer)))
    (l_is_integer : K.lookup f_is_integer = some ⟨oc_is_integer, od_is_integer, .func (PySem.W.fnOf "is_integer" "is_integer" (defArgs s_is_integer) (defBody s_is_integer) (defScope s_is_integer) .none kV_is_integer dc_is_integer pm_is_integer an_is_integer cd_is_integer ct_is_integer), sl_is_integer⟩)
    (c_is_integer : PySem.W.codeIn K cd_is_integer "is_integer" = true)
    (k_is_integer : PySem.W.keepIn K (.ref f_is_integer) = true)
    (a_is_integer_from : PySem.W.nsIn K mainGlobals "is_integer_from" = some (some (.ref f_is_integer_from)))
    (l_is_integer_from : K.lookup f_is_integer_from = some ⟨oc_is_integer_from, od_is_integer_from, .func (PySem.W.fnOf "is_integer_from" "is_integer_from" (defArgs s_is_integer_from) (defBody s_is_integer_from) (defScope s_is_integer_from) .none kV_is_integer_from dc_is_integer_from pm_is_integer_from an_is_integer_from cd_is_integer_from ct_is_integer_from), sl_is_integer_from⟩)
    (c_is_integer_from : PySem.W.codeIn K cd_is_integer_from "is_integer_from" = true)
    (k_is_integer_from : PySem.W.keepIn K (.ref f_is_integer_from) = true)
    (a_is_key : PySem.W.nsIn K mainGlobals "is_key" = some (some (.ref f_is_key)))
    (l_is_key : K.lookup f_is_key = some ⟨oc_is_key, od_is_key, .func (PySem.W.fnOf "is_key" "is_key" (defArgs s_is_key) (defBody s_is_key) (defScope s_is_key) .none kV_is_key dc_is_key pm_is_key an_is_key cd_is_key ct_is_key), sl_is_key⟩)
    (c_is_key : PySem.W.codeIn K cd_is_key "is_key" = true)
    (k_is_key : PySem.W.keepIn K (.ref f_is_key) = true)
    (a_check_arms : PySem.W.nsIn K mainGlobals "check_arms" = some (some (.ref f_check_arms)))
    (l_check_arms : K.lookup f_check_arms = some ⟨oc_check_arms, od_check_arms, .func (PySem.W.fnOf "check_arms" "check_arms" (defArgs s_check_arms) (defBody s_check_arms) (defScope s_check_arms) .none kV_check_arms dc_check_arms pm_check_arms an_check_arms cd_check_arms ct_check_arms), sl_check_arms⟩)
    (c_check_arms : PySem.W.codeIn K cd_check_arms "check_arms" = true)
    (k_check_arms : PySem.W.keepIn K (.ref f_check_arms) = true)
    (a_check_many : PySem.W.nsIn K mainGlobals "check_many" = some (some (.ref f_check_many)))
    (l_check_many : K.lookup f_check_many = some ⟨oc_check_many, od_check_many, .func (PySem.W.fnOf "check_many" "check_many" (defArgs s_check_many) (defBody s_check_many) (defScope s_check_many) .none kV_check_many dc_check_many pm_check_many an_check_many cd_check_many ct_check_many), sl_check_many⟩)
    (c_check_many : PySem.W.codeIn K cd_check_many "check_many" = true)
    (k_check_many : PySem.W.keepIn K (.ref f_check_many) = true)
    (a_check_place : PySem.W.nsIn K mainGlobals "check_place" = some (some (.ref f_check_place)))
    (l_check_place : K.lookup f_check_place = some ⟨oc_check_place, od_check_place, .func (PySem.W.fnOf "check_place" "check_place" (defArgs s_check_place) (defBody s_check_place) (defScope s_check_place) .none kV_check_place dc_check_place pm_check_place an_check_place cd_check_place ct_check_place), sl_check_place⟩)
    (c_check_place : PySem.W.codeIn K cd_check_place "check_place" = true)
    (k_check_place : PySem.W.keepIn K (.ref f_check_place) = true)
    (a_check_key : PySem.W.nsIn K mainGlobals "check_key" = some (some (.ref f_check_key)))
    (l_check_key : K.lookup f_check_key = some ⟨oc_check_key, od_check_key, .func (PySem.W.fnOf "check_key" "check_key" (defArgs s_check_key) (defBody s_check_key) (defScope s_check_key) .none kV_check_key dc_check_key pm_check_key an_check_key cd_check_key ct_check_key), sl_check_key⟩)
    (c_check_key : PySem.W.codeIn K cd_check_key "check_key" = true)
    (k_check_key : PySem.W.keepIn K (.ref f_check_key) = true)
    (a_row_of : PySem.W.nsIn K mainGlobals "row_of" = some (some (.ref f_row_of)))
    (l_row_of : K.lookup f_row_of = some ⟨oc_row_of, od_row_of, .func (PySem.W.fnOf "row_of" "row_of" (defArgs s_row_of) (defBody s_row_of) (defScope s_row_of) .none kV_row_of dc_row_of pm_row_of an_row_of cd_row_of ct_row_of), sl_row_of⟩)
    (c_row_of : PySem.W.codeIn K cd_row_of "row_of" = true)
    (k_row_of : PySem.W.keepIn K (.ref f_row_of) = true)
    (a_check_different : PySem.W.nsIn K mainGlobals "check_different" = some (some (.ref f_check_different)))
    (l_check_different : K.lookup f_check_different = some ⟨oc_check_different, od_check_different, .func (PySem.W.fnOf "check_different" "check_different" (defArgs s_check_different) (defBody s_check_different) (defScope s_check_different) .none kV_check_different dc_check_different pm_check_different an_check_different cd_check_different ct_check_different), sl_check_different⟩)
    (c_check_different : PySem.W.codeIn K cd_check_different "check_different" = true)
    (k_check_different : PySem.W.keepIn K (.ref f_check_different) = true)
    (a_t___init__ : PySem.W.findIn K (.ref C) "__init__" = some (some (.ref f_t___init__)))
    (i_t___init__ : PySem.W.isFn K (.ref f_t___init__) = true)
    (l_t___init__ : K.lookup f_t___init__ = some ⟨oc_t___init__, od_t___init__, .func (PySem.W.fnOf "__init__" "Tree.__init__" (defArgs s_t___init__) (defBody s_t___init__) (defScope s_t___init__) .none (.ref D_t___init__) dc_t___init__ pm_t___init__ an_t___init__ cd_t___init__ ct_t___init__), sl_t___init__⟩)
    (c_t___init__ : PySem.W.codeIn K cd_t___init__ "Tree.__init__" = true)
    (k_t___init__ : PySem.W.keepIn K (.ref f_t___init__) = true)
    {tk_t___init__ : Tok}
    (w_t___init__ : PySem.W.nsIn K D_t___init__ "arms" = some (some (.int 2 tk_t___init__)))
    (a_t_of : PySem.W.findCls K (.ref C) (.type "type") "of" = some (.get (.builtin "classmethod.__get__") (.ref po) .none (.ref C)))
    {rest_of : List Value}
    (r_t_of : PySem.W.recIn K po "classmethod" = some (.ref f_t_of :: rest_of))
    (n_t_of : PySem.W.fnIn K f_t_of = true)
    (l_t_of : K.lookup f_t_of = some ⟨oc_t_of, od_t_of, .func (PySem.W.fnOf "of" "Tree.of" (defArgs s_t_of) (defBody s_t_of) (defScope s_t_of) .none (.ref D_t_of) dc_t_of pm_t_of an_t_of cd_t_of ct_t_of), sl_t_of⟩)
    (c_t_of : PySem.W.codeIn K cd_t_of "Tree.of" = true)
    (k_t_of : PySem.W.keepIn K (.ref f_t_of) = true)
    {tk_t_of : Tok}
    (w_t_of : PySem.W.nsIn K D_t_of "arms" = some (some (.int 2 tk_t_of)))
    (a_t___len__ : PySem.W.findIn K (.ref C) "__len__" = some (some (.ref f_t___len__)))
    (i_t___len__ : PySem.W.isFn K (.ref f_t___len__) = true)
    (n_t___len__ : PySem.W.fnIn K f_t___len__ = true)
    (l_t___len__ : K.lookup f_t___len__ = some ⟨oc_t___len__, od_t___len__, .func (PySem.W.fnOf "__len__" "Tree.__len__" (defArgs s_t___len__) (defBody s_t___len__) (defScope s_t___len__) .none kV_t___len__ dc_t___len__ pm_t___len__ an_t___len__ cd_t___len__ ct_t___len__), sl_t___len__⟩)
    (c_t___len__ : PySem.W.codeIn K cd_t___len__ "Tree.__len__" = true)
    (k_t___len__ : PySem.W.keepIn K (.ref f_t___len__) = true)
    (a_t___contains__ : PySem.W.findIn K (.ref C) "__contains__" = some (some (.ref f_t___contains__)))
    (i_t___contains__ : PySem.W.isFn K (.ref f_t___contains__) = true)
    (n_t___contains__ : PySem.W.fnIn K f_t___contains__ = true)
    (l_t___contains__ : K.lookup f_t___contains__ = some ⟨oc_t___contains__, od_t___contains__, .func (PySem.W.fnOf "__contains__" "Tree.__contains__" (defArgs s_t___contains__) (defBody s_t___contains__) (defScope s_t___contains__) .none kV_t___contains__ dc_t___contains__ pm_t___contains__ an_t___contains__ cd_t___contains__ ct_t___contains__), sl_t___contains__⟩)
    (c_t___contains__ : PySem.W.codeIn K cd_t___contains__ "Tree.__contains__" = true)
    (k_t___contains__ : PySem.W.keepIn K (.ref f_t___contains__) = true)
    (a_t___iter__ : PySem.W.findIn K (.ref C) "__iter__" = some (some (.ref f_t___iter__)))
    (i_t___iter__ : PySem.W.isFn K (.ref f_t___iter__) = true)
    (n_t___iter__ : PySem.W.fnIn K f_t___iter__ = true)
    (l_t___iter__ : K.lookup f_t___iter__ = some ⟨oc_t___iter__, od_t___iter__, .func (PySem.W.fnOf "__iter__" "Tree.__iter__" (defArgs s_t___iter__) (defBody s_t___iter__) (defScope s_t___iter__) .none kV_t___iter__ dc_t___iter__ pm_t___iter__ an_t___iter__ cd_t___iter__ ct_t___iter__), sl_t___iter__⟩)
    (c_t___iter__ : PySem.W.codeIn K cd_t___iter__ "Tree.__iter__" = true)
    (k_t___iter__ : PySem.W.keepIn K (.ref f_t___iter__) = true)
    (a_t___getitem__ : PySem.W.findIn K (.ref C) "__getitem__" = some (some (.ref f_t___getitem__)))
    (i_t___getitem__ : PySem.W.isFn K (.ref f_t___getitem__) = true)
    (n_t___getitem__ : PySem.W.fnIn K f_t___getitem__ = true)
    (l_t___getitem__ : K.lookup f_t___getitem__ = some ⟨oc_t___getitem__, od_t___getitem__, .func (PySem.W.fnOf "__getitem__" "Tree.__getitem__" (defArgs s_t___getitem__) (defBody s_t___getitem__) (defScope s_t___getitem__) .none kV_t___getitem__ dc_t___getitem__ pm_t___getitem__ an_t___getitem__ cd_t___getitem__ ct_t___getitem__), sl_t___getitem__⟩)
    (c_t___getitem__ : PySem.W.codeIn K cd_t___getitem__ "Tree.__getitem__" = true)
    (k_t___getitem__ : PySem.W.keepIn K (.ref f_t___getitem__) = true)
    (a_t_parent : PySem.W.findIn K (.ref C) "parent" = some (some (.ref f_t_parent)))
    (i_t_parent : PySem.W.isFn K (.ref f_t_parent) = true)
    (l_t_parent : K.lookup f_t_parent = some ⟨oc_t_parent, od_t_parent, .func (PySem.W.fnOf "parent" "Tree.parent" (defArgs s_t_parent) (defBody s_t_parent) (defScope s_t_parent) .none kV_t_parent dc_t_parent pm_t_parent an_t_parent cd_t_parent ct_t_parent), sl_t_parent⟩)
    (c_t_parent : PySem.W.codeIn K cd_t_parent "Tree.parent" = true)
    (k_t_parent : PySem.W.keepIn K (.ref f_t_parent) = true)
    (a_t_way_to : PySem.W.findIn K (.ref C) "way_to" = some (some (.ref f_t_way_to)))
    (i_t_way_to : PySem.W.isFn K (.ref f_t_way_to) = true)
    (l_t_way_to : K.lookup f_t_way_to = some ⟨oc_t_way_to, od_t_way_to, .func (PySem.W.fnOf "way_to" "Tree.way_to" (defArgs s_t_way_to) (defBody s_t_way_to) (defScope s_t_way_to) .none kV_t_way_to dc_t_way_to pm_t_way_to an_t_way_to cd_t_way_to ct_t_way_to), sl_t_way_to⟩)
    (c_t_way_to : PySem.W.codeIn K cd_t_way_to "Tree.way_to" = true)
    (k_t_way_to : PySem.W.keepIn K (.ref f_t_way_to) = true)
    (a_t_depth : PySem.W.findIn K (.ref C) "depth" = some (some (.ref f_t_depth)))
    (i_t_depth : PySem.W.isFn K (.ref f_t_depth) = true)
    (l_t_depth : K.lookup f_t_depth = some ⟨oc_t_depth, od_t_depth, .func (PySem.W.fnOf "depth" "Tree.depth" (defArgs s_t_depth) (defBody s_t_depth) (defScope s_t_depth) .none kV_t_depth dc_t_depth pm_t_depth an_t_depth cd_t_depth ct_t_depth), sl_t_depth⟩)
    (c_t_depth : PySem.W.codeIn K cd_t_depth "Tree.depth" = true)
    (k_t_depth : PySem.W.keepIn K (.ref f_t_depth) = true)
    (a_is_heap : PySem.W.nsIn K mainGlobals "is_heap" = some (some (.ref f_is_heap)))
    (l_is_heap : K.lookup f_is_heap = some ⟨oc_is_heap, od_is_heap, .func (PySem.W.fnOf "is_heap" "is_heap" (defArgs s_is_heap) (defBody s_is_heap) (defScope s_is_heap) .none (.ref D_is_heap) dc_is_heap pm_is_heap an_is_heap cd_is_heap ct_is_heap), sl_is_heap⟩)
    (c_is_heap : PySem.W.codeIn K cd_is_heap "is_heap" = true)
    (k_is_heap : PySem.W.keepIn K (.ref f_is_heap) = true)
    {tk_is_heap : Tok}
    (w_is_heap : PySem.W.nsIn K D_is_heap "arms" = some (some (.int 2 tk_is_heap)))
    (a_faults : PySem.W.nsIn K mainGlobals "faults" = some (some (.ref f_faults)))
    (l_faults : K.lookup f_faults = some ⟨oc_faults, od_faults, .func (PySem.W.fnOf "faults" "faults" (defArgs s_faults) (defBody s_faults) (defScope s_faults) .none (.ref D_faults) dc_faults pm_faults an_faults cd_faults ct_faults), sl_faults⟩)
    (c_faults : PySem.W.codeIn K cd_faults "faults" = true)
    (k_faults : PySem.W.keepIn K (.ref f_faults) = true)
    {tk_faults : Tok}
    (w_faults : PySem.W.nsIn K D_faults "arms" = some (some (.int 2 tk_faults)))
    (a_heap_of : PySem.W.nsIn K mainGlobals "heap_of" = some (some (.ref f_heap_of)))
    (l_heap_of : K.lookup f_heap_of = some ⟨oc_heap_of, od_heap_of, .func (PySem.W.fnOf "heap_of" "heap_of" (defArgs s_heap_of) (defBody s_heap_of) (defScope s_heap_of) .none kV_heap_of dc_heap_of pm_heap_of an_heap_of cd_heap_of ct_heap_of), sl_heap_of⟩)
    (c_heap_of : PySem.W.codeIn K cd_heap_of "heap_of" = true)
    (k_heap_of : PySem.W.keepIn K (.ref f_heap_of) = true)
    (a_different_heap_of : PySem.W.nsIn K mainGlobals "different_heap_of" = some (some (.ref f_different_heap_of)))
    (l_different_heap_of : K.lookup f_different_heap_of = some ⟨oc_different_heap_of, od_different_heap_of, .func (PySem.W.fnOf "different_heap_of" "different_heap_of" (defArgs s_different_heap_of) (defBody s_different_heap_of) (defScope s_different_heap_of) .none kV_different_heap_of dc_different_heap_of pm_different_heap_of an_different_heap_of cd_different_heap_of ct_different_heap_of), sl_different_heap_of⟩)
    (c_different_heap_of : PySem.W.codeIn K cd_different_heap_of "different_heap_of" = true)
    (k_different_heap_of : PySem.W.keepIn K (.ref f_different_heap_of) = true)
    (a_z___init__ : PySem.W.findIn K (.ref CS) "__init__" = some (some (.ref f_z___init__)))
    (i_z___init__ : PySem.W.isFn K (.ref f_z___init__) = true)
    (l_z___init__ : K.lookup f_z___init__ = some ⟨oc_z___init__, od_z___init__, .func (PySem.W.fnOf "__init__" "Sift.__init__" (defArgs s_z___init__) (defBody s_z___init__) (defScope s_z___init__) .none kV_z___init__ dc_z___init__ pm_z___init__ an_z___init__ cd_z___init__ ct_z___init__), sl_z___init__⟩)
    (c_z___init__ : PySem.W.codeIn K cd_z___init__ "Sift.__init__" = true)
    (k_z___init__ : PySem.W.keepIn K (.ref f_z___init__) = true)
    (a_sift_up : PySem.W.nsIn K mainGlobals "sift_up" = some (some (.ref f_sift_up)))
    (l_sift_up : K.lookup f_sift_up = some ⟨oc_sift_up, od_sift_up, .func (PySem.W.fnOf "sift_up" "sift_up" (defArgs s_sift_up) (defBody s_sift_up) (defScope s_sift_up) .none (.ref D_sift_up) dc_sift_up pm_sift_up an_sift_up cd_sift_up ct_sift_up), sl_sift_up⟩)
    (c_sift_up : PySem.W.codeIn K cd_sift_up "sift_up" = true)
    (k_sift_up : PySem.W.keepIn K (.ref f_sift_up) = true)
    {tk_sift_up : Tok}
    (w_sift_up : PySem.W.nsIn K D_sift_up "arms" = some (some (.int 2 tk_sift_up)))
    (a_row_before : PySem.W.nsIn K mainGlobals "row_before" = some (some (.ref f_row_before)))
    (l_row_before : K.lookup f_row_before = some ⟨oc_row_before, od_row_before, .func (PySem.W.fnOf "row_before" "row_before" (defArgs s_row_before) (defBody s_row_before) (defScope s_row_before) .none kV_row_before dc_row_before pm_row_before an_row_before cd_row_before ct_row_before), sl_row_before⟩)
    (c_row_before : PySem.W.codeIn K cd_row_before "row_before" = true)
    (k_row_before : PySem.W.keepIn K (.ref f_row_before) = true)
    (a_push : PySem.W.nsIn K mainGlobals "push" = some (some (.ref f_push)))
    (l_push : K.lookup f_push = some ⟨oc_push, od_push, .func (PySem.W.fnOf "push" "push" (defArgs s_push) (defBody s_push) (defScope s_push) .none (.ref D_push) dc_push pm_push an_push cd_push ct_push), sl_push⟩)
    (c_push : PySem.W.codeIn K cd_push "push" = true)
    (k_push : PySem.W.keepIn K (.ref f_push) = true)
    {tk_push : Tok}
    (w_push : PySem.W.nsIn K D_push "arms" = some (some (.int 2 tk_push)))
    (a_check_filled : PySem.W.nsIn K mainGlobals "check_filled" = some (some (.ref f_check_filled)))
    (l_check_filled : K.lookup f_check_filled = some ⟨oc_check_filled, od_check_filled, .func (PySem.W.fnOf "check_filled" "check_filled" (defArgs s_check_filled) (defBody s_check_filled) (defScope s_check_filled) .none kV_check_filled dc_check_filled pm_check_filled an_check_filled cd_check_filled ct_check_filled), sl_check_filled⟩)
    (c_check_filled : PySem.W.codeIn K cd_check_filled "check_filled" = true)
    (k_check_filled : PySem.W.keepIn K (.ref f_check_filled) = true)
    (a_p___init__ : PySem.W.findIn K (.ref CP) "__init__" = some (some (.ref f_p___init__)))
    (i_p___init__ : PySem.W.isFn K (.ref f_p___init__) = true)
    (l_p___init__ : K.lookup f_p___init__ = some ⟨oc_p___init__, od_p___init__, .func (PySem.W.fnOf "__init__" "Pushed.__init__" (defArgs s_p___init__) (defBody s_p___init__) (defScope s_p___init__) .none kV_p___init__ dc_p___init__ pm_p___init__ an_p___init__ cd_p___init__ ct_p___init__), sl_p___init__⟩)
    (c_p___init__ : PySem.W.codeIn K cd_p___init__ "Pushed.__init__" = true)
    (k_p___init__ : PySem.W.keepIn K (.ref f_p___init__) = true)
    (a_p___eq__ : PySem.W.findIn K (.ref CP) "__eq__" = some (some (.ref f_p___eq__)))
    (i_p___eq__ : PySem.W.isFn K (.ref f_p___eq__) = true)
    (l_p___eq__ : K.lookup f_p___eq__ = some ⟨oc_p___eq__, od_p___eq__, .func (PySem.W.fnOf "__eq__" "Pushed.__eq__" (defArgs s_p___eq__) (defBody s_p___eq__) (defScope s_p___eq__) .none kV_p___eq__ dc_p___eq__ pm_p___eq__ an_p___eq__ cd_p___eq__ ct_p___eq__), sl_p___eq__⟩)
    (c_p___eq__ : PySem.W.codeIn K cd_p___eq__ "Pushed.__eq__" = true)
    (k_p___eq__ : PySem.W.keepIn K (.ref f_p___eq__) = true)
    (a_u___init__ : PySem.W.findIn K (.ref CU) "__init__" = some (some (.ref f_u___init__)))
    (i_u___init__ : PySem.W.isFn K (.ref f_u___init__) = true)
    (l_u___init__ : K.lookup f_u___init__ = some ⟨oc_u___init__, od_u___init__, .func (PySem.W.fnOf "__init__" "Undone.__init__" (defArgs s_u___init__) (defBody s_u___init__) (defScope s_u___init__) .none kV_u___init__ dc_u___init__ pm_u___init__ an_u___init__ cd_u___init__ ct_u___init__), sl_u___init__⟩)
    (c_u___init__ : PySem.W.codeIn K cd_u___init__ "Undone.__init__" = true)
    (k_u___init__ : PySem.W.keepIn K (.ref f_u___init__) = true)
    (a_u___eq__ : PySem.W.findIn K (.ref CU) "__eq__" = some (some (.ref f_u___eq__)))
    (i_u___eq__ : PySem.W.isFn K (.ref f_u___eq__) = true)
    (l_u___eq__ : K.lookup f_u___eq__ = some ⟨oc_u___eq__, od_u___eq__, .func (PySem.W.fnOf "__eq__" "Undone.__eq__" (defArgs s_u___eq__) (defBody s_u___eq__) (defScope s_u___eq__) .none kV_u___eq__ dc_u___eq__ pm_u___eq__ an_u___eq__ cd_u___eq__ ct_u___eq__), sl_u___eq__⟩)
    (c_u___eq__ : PySem.W.codeIn K cd_u___eq__ "Undone.__eq__" = true)
    (k_u___eq__ : PySem.W.keepIn K (.ref f_u___eq__) = true)
    (a_u_shows : PySem.W.findIn K (.ref CU) "shows" = some (some (.ref f_u_shows)))
    (i_u_shows : PySem.W.isFn K (.ref f_u_shows) = true)
    (l_u_shows : K.lookup f_u_shows = some ⟨oc_u_shows, od_u_shows, .func (PySem.W.fnOf "shows" "Undone.shows" (defArgs s_u_shows) (defBody s_u_shows) (defScope s_u_shows) .none (.ref D_u_shows) dc_u_shows pm_u_shows an_u_shows cd_u_shows ct_u_shows), sl_u_shows⟩)
    (c_u_shows : PySem.W.codeIn K cd_u_shows "Undone.shows" = true)
    (k_u_shows : PySem.W.keepIn K (.ref f_u_shows) = true)
    {tk_u_shows : Tok}
    (w_u_shows : PySem.W.nsIn K D_u_shows "arms" = some (some (.int 2 tk_u_shows)))
    (a_y___init__ : PySem.W.findIn K (.ref CY) "__init__" = some (some (.ref f_y___init__)))
    (i_y___init__ : PySem.W.isFn K (.ref f_y___init__) = true)
    (l_y___init__ : K.lookup f_y___init__ = some ⟨oc_y___init__, od_y___init__, .func (PySem.W.fnOf "__init__" "Stuck.__init__" (defArgs s_y___init__) (defBody s_y___init__) (defScope s_y___init__) .none kV_y___init__ dc_y___init__ pm_y___init__ an_y___init__ cd_y___init__ ct_y___init__), sl_y___init__⟩)
    (c_y___init__ : PySem.W.codeIn K cd_y___init__ "Stuck.__init__" = true)
    (k_y___init__ : PySem.W.keepIn K (.ref f_y___init__) = true)
    (a_y___eq__ : PySem.W.findIn K (.ref CY) "__eq__" = some (some (.ref f_y___eq__)))
    (i_y___eq__ : PySem.W.isFn K (.ref f_y___eq__) = true)
    (l_y___eq__ : K.lookup f_y___eq__ = some ⟨oc_y___eq__, od_y___eq__, .func (PySem.W.fnOf "__eq__" "Stuck.__eq__" (defArgs s_y___eq__) (defBody s_y___eq__) (defScope s_y___eq__) .none kV_y___eq__ dc_y___eq__ pm_y___eq__ an_y___eq__ cd_y___eq__ ct_y___eq__), sl_y___eq__⟩)
    (c_y___eq__ : PySem.W.codeIn K cd_y___eq__ "Stuck.__eq__" = true)
    (k_y___eq__ : PySem.W.keepIn K (.ref f_y___eq__) = true)
    (a_y_shows : PySem.W.findIn K (.ref CY) "shows" = some (some (.ref f_y_shows)))
    (i_y_shows : PySem.W.isFn K (.ref f_y_shows) = true)
    (l_y_shows : K.lookup f_y_shows = some ⟨oc_y_shows, od_y_shows, .func (PySem.W.fnOf "shows" "Stuck.shows" (defArgs s_y_shows) (defBody s_y_shows) (defScope s_y_shows) .none (.ref D_y_shows) dc_y_shows pm_y_shows an_y_shows cd_y_shows ct_y_shows), sl_y_shows⟩)
    (c_y_shows : PySem.W.codeIn K cd_y_shows "Stuck.shows" = true)
    (k_y_shows : PySem.W.keepIn K (.ref f_y_shows) = true)
    {tk_y_shows : Tok}
    (w_y_shows : PySem.W.nsIn K D_y_shows "arms" = some (some (.int 2 tk_y_shows)))
    (a_push_all : PySem.W.nsIn K mainGlobals "push_all" = some (some (.ref f_push_all)))
    (l_push_all : K.lookup f_push_all = some ⟨oc_push_all, od_push_all, .func (PySem.W.fnOf "push_all" "push_all" (defArgs s_push_all) (defBody s_push_all) (defScope s_push_all) .none (.ref D_push_all) dc_push_all pm_push_all an_push_all cd_push_all ct_push_all), sl_push_all⟩)
    (c_push_all : PySem.W.codeIn K cd_push_all "push_all" = true)
    (k_push_all : PySem.W.keepIn K (.ref f_push_all) = true)
    {tk_push_all : Tok}
    (w_push_all : PySem.W.nsIn K D_push_all "arms" = some (some (.int 2 tk_push_all)))
    (a_most_pushed : PySem.W.nsIn K mainGlobals "most_pushed" = some (some (.ref f_most_pushed)))
    (l_most_pushed : K.lookup f_most_pushed = some ⟨oc_most_pushed, od_most_pushed, .func (PySem.W.fnOf "most_pushed" "most_pushed" (defArgs s_most_pushed) (defBody s_most_pushed) (defScope s_most_pushed) .none (.ref D_most_pushed) dc_most_pushed pm_most_pushed an_most_pushed cd_most_pushed ct_most_pushed), sl_most_pushed⟩)
    (c_most_pushed : PySem.W.codeIn K cd_most_pushed "most_pushed" = true)
    (k_most_pushed : PySem.W.keepIn K (.ref f_most_pushed) = true)
    {tk_most_pushed : Tok}
    (w_most_pushed : PySem.W.nsIn K D_most_pushed "arms" = some (some (.int 2 tk_most_pushed)))
    (a_undo_push : PySem.W.nsIn K mainGlobals "undo_push" = some (some (.ref f_undo_push)))
    (l_undo_push : K.lookup f_undo_push = some ⟨oc_undo_push, od_undo_push, .func (PySem.W.fnOf "undo_push" "undo_push" (defArgs s_undo_push) (defBody s_undo_push) (defScope s_undo_push) .none (.ref D_undo_push) dc_undo_push pm_undo_push an_undo_push (.ref cc_undo_push) ct_undo_push), sl_undo_push⟩)
    (c_undo_push : PySem.W.codeIn K (.ref cc_undo_push) "undo_push" = true)
    (k_undo_push : PySem.W.keepIn K (.ref f_undo_push) = true)
    {tk_undo_push : Tok}
    (w_undo_push : PySem.W.nsIn K D_undo_push "arms" = some (some (.int 2 tk_undo_push)))
    (a_last_places : PySem.W.nsIn K mainGlobals "last_places" = some (some (.ref f_last_places)))
    (l_last_places : K.lookup f_last_places = some ⟨oc_last_places, od_last_places, .func (PySem.W.fnOf "last_places" "last_places" (defArgs s_last_places) (defBody s_last_places) (defScope s_last_places) .none (.ref D_last_places) dc_last_places pm_last_places an_last_places cd_last_places ct_last_places), sl_last_places⟩)
    (c_last_places : PySem.W.codeIn K cd_last_places "last_places" = true)
    (k_last_places : PySem.W.keepIn K (.ref f_last_places) = true)
    {tk_last_places : Tok}
    (w_last_places : PySem.W.nsIn K D_last_places "arms" = some (some (.int 2 tk_last_places)))
    (a_last_way : PySem.W.nsIn K mainGlobals "last_way" = some (some (.ref f_last_way)))
    (l_last_way : K.lookup f_last_way = some ⟨oc_last_way, od_last_way, .func (PySem.W.fnOf "last_way" "last_way" (defArgs s_last_way) (defBody s_last_way) (defScope s_last_way) .none kV_last_way dc_last_way pm_last_way an_last_way cd_last_way ct_last_way), sl_last_way⟩)
    (c_last_way : PySem.W.codeIn K cd_last_way "last_way" = true)
    (k_last_way : PySem.W.keepIn K (.ref f_last_way) = true)
    (a_heap_and_way_below : PySem.W.nsIn K mainGlobals "heap_and_way_below" = some (some (.ref f_heap_and_way_below)))
    (l_heap_and_way_below : K.lookup f_heap_and_way_below = some ⟨oc_heap_and_way_below, od_heap_and_way_below, .func (PySem.W.fnOf "heap_and_way_below" "heap_and_way_below" (defArgs s_heap_and_way_below) (defBody s_heap_and_way_below) (defScope s_heap_and_way_below) .none kV_heap_and_way_below dc_heap_and_way_below pm_heap_and_way_below an_heap_and_way_below cd_heap_and_way_below ct_heap_and_way_below), sl_heap_and_way_below⟩)
    (c_heap_and_way_below : PySem.W.codeIn K cd_heap_and_way_below "heap_and_way_below" = true)
    (k_heap_and_way_below : PySem.W.keepIn K (.ref f_heap_and_way_below) = true)
    (a__law_number : PySem.W.nsIn K mainGlobals "_law_number" = some (some (.ref f__law_number)))
    (l__law_number : K.lookup f__law_number = some ⟨oc__law_number, od__law_number, .func (PySem.W.fnOf "_law_number" "_law_number" (defArgs s__law_number) (defBody s__law_number) (defScope s__law_number) .none kV__law_number dc__law_number pm__law_number an__law_number cd__law_number ct__law_number), sl__law_number⟩)
    (c__law_number : PySem.W.codeIn K cd__law_number "_law_number" = true)
    (k__law_number : PySem.W.keepIn K (.ref f__law_number) = true)
    (a__law_take : PySem.W.nsIn K mainGlobals "_law_take" = some (some (.ref f__law_take)))
    (l__law_take : K.lookup f__law_take = some ⟨oc__law_take, od__law_take, .func (PySem.W.fnOf "_law_take" "_law_take" (defArgs s__law_take) (defBody s__law_take) (defScope s__law_take) .none kV__law_take dc__law_take pm__law_take an__law_take cd__law_take ct__law_take), sl__law_take⟩)
    (c__law_take : PySem.W.codeIn K cd__law_take "_law_take" = true)
    (k__law_take : PySem.W.keepIn K (.ref f__law_take) = true)
    (a__law_pick : PySem.W.nsIn K mainGlobals "_law_pick" = some (some (.ref f__law_pick)))
    (l__law_pick : K.lookup f__law_pick = some ⟨oc__law_pick, od__law_pick, .func (PySem.W.fnOf "_law_pick" "_law_pick" (defArgs s__law_pick) (defBody s__law_pick) (defScope s__law_pick) .none kV__law_pick dc__law_pick pm__law_pick an__law_pick cd__law_pick ct__law_pick), sl__law_pick⟩)
    (c__law_pick : PySem.W.codeIn K cd__law_pick "_law_pick" = true)
    (k__law_pick : PySem.W.keepIn K (.ref f__law_pick) = true)
    (a__law_parent : PySem.W.nsIn K mainGlobals "_law_parent" = some (some (.ref f__law_parent)))
    (l__law_parent : K.lookup f__law_parent = some ⟨oc__law_parent, od__law_parent, .func (PySem.W.fnOf "_law_parent" "_law_parent" (defArgs s__law_parent) (defBody s__law_parent) (defScope s__law_parent) .none kV__law_parent dc__law_parent pm__law_parent an__law_parent cd__law_parent ct__law_parent), sl__law_parent⟩)
    (c__law_parent : PySem.W.codeIn K cd__law_parent "_law_parent" = true)
    (k__law_parent : PySem.W.keepIn K (.ref f__law_parent) = true)
    (a__law_children : PySem.W.nsIn K mainGlobals "_law_children" = some (some (.ref f__law_children)))
    (l__law_children : K.lookup f__law_children = some ⟨oc__law_children, od__law_children, .func (PySem.W.fnOf "_law_children" "_law_children" (defArgs s__law_children) (defBody s__law_children) (defScope s__law_children) .none kV__law_children dc__law_children pm__law_children an__law_children cd__law_children ct__law_children), sl__law_children⟩)
    (c__law_children : PySem.W.codeIn K cd__law_children "_law_children" = true)
    (k__law_children : PySem.W.keepIn K (.ref f__law_children) = true)
    (a__law_way : PySem.W.nsIn K mainGlobals "_law_way" = some (some (.ref f__law_way)))
    (l__law_way : K.lookup f__law_way = some ⟨oc__law_way, od__law_way, .func (PySem.W.fnOf "_law_way" "_law_way" (defArgs s__law_way) (defBody s__law_way) (defScope s__law_way) .none kV__law_way dc__law_way pm__law_way an__law_way cd__law_way ct__law_way), sl__law_way⟩)
    (c__law_way : PySem.W.codeIn K cd__law_way "_law_way" = true)
    (k__law_way : PySem.W.keepIn K (.ref f__law_way) = true)
    (a__law_arms : PySem.W.nsIn K mainGlobals "_law_arms" = some (some (.ref f__law_arms)))
    (l__law_arms : K.lookup f__law_arms = some ⟨oc__law_arms, od__law_arms, .func (PySem.W.fnOf "_law_arms" "_law_arms" (defArgs s__law_arms) (defBody s__law_arms) (defScope s__law_arms) .none kV__law_arms dc__law_arms pm__law_arms an__law_arms cd__law_arms ct__law_arms), sl__law_arms⟩)
    (c__law_arms : PySem.W.codeIn K cd__law_arms "_law_arms" = true)
    (k__law_arms : PySem.W.keepIn K (.ref f__law_arms) = true)
    (a__law_keys : PySem.W.nsIn K mainGlobals "_law_keys" = some (some (.ref f__law_keys)))
    (l__law_keys : K.lookup f__law_keys = some ⟨oc__law_keys, od__law_keys, .func (PySem.W.fnOf "_law_keys" "_law_keys" (defArgs s__law_keys) (defBody s__law_keys) (defScope s__law_keys) .none kV__law_keys dc__law_keys pm__law_keys an__law_keys cd__law_keys ct__law_keys), sl__law_keys⟩)
    (c__law_keys : PySem.W.codeIn K cd__law_keys "_law_keys" = true)
    (k__law_keys : PySem.W.keepIn K (.ref f__law_keys) = true)
    (a__law_order : PySem.W.nsIn K mainGlobals "_law_order" = some (some (.ref f__law_order)))
    (l__law_order : K.lookup f__law_order = some ⟨oc__law_order, od__law_order, .func (PySem.W.fnOf "_law_order" "_law_order" (defArgs s__law_order) (defBody s__law_order) (defScope s__law_order) .none kV__law_order dc__law_order pm__law_order an__law_order cd__law_order ct__law_order), sl__law_order⟩)
    (c__law_order : PySem.W.codeIn K cd__law_order "_law_order" = true)
    (k__law_order : PySem.W.keepIn K (.ref f__law_order) = true)
    (a__law_is_heap : PySem.W.nsIn K mainGlobals "_law_is_heap" = some (some (.ref f__law_is_heap)))
    (l__law_is_heap : K.lookup f__law_is_heap = some ⟨oc__law_is_heap, od__law_is_heap, .func (PySem.W.fnOf "_law_is_heap" "_law_is_heap" (defArgs s__law_is_heap) (defBody s__law_is_heap) (defScope s__law_is_heap) .none kV__law_is_heap dc__law_is_heap pm__law_is_heap an__law_is_heap cd__law_is_heap ct__law_is_heap), sl__law_is_heap⟩)
    (c__law_is_heap : PySem.W.codeIn K cd__law_is_heap "_law_is_heap" = true)
    (k__law_is_heap : PySem.W.keepIn K (.ref f__law_is_heap) = true)
    (a__law_lists : PySem.W.nsIn K mainGlobals "_law_lists" = some (some (.ref f__law_lists)))
    (l__law_lists : K.lookup f__law_lists = some ⟨oc__law_lists, od__law_lists, .func (PySem.W.fnOf "_law_lists" "_law_lists" (defArgs s__law_lists) (defBody s__law_lists) (defScope s__law_lists) .none kV__law_lists dc__law_lists pm__law_lists an__law_lists cd__law_lists ct__law_lists), sl__law_lists⟩)
    (c__law_lists : PySem.W.codeIn K cd__law_lists "_law_lists" = true)
    (k__law_lists : PySem.W.keepIn K (.ref f__law_lists) = true)
    (a__law_heaps : PySem.W.nsIn K mainGlobals "_law_heaps" = some (some (.ref f__law_heaps)))
    (l__law_heaps : K.lookup f__law_heaps = some ⟨oc__law_heaps, od__law_heaps, .func (PySem.W.fnOf "_law_heaps" "_law_heaps" (defArgs s__law_heaps) (defBody s__law_heaps) (defScope s__law_heaps) .none kV__law_heaps dc__law_heaps pm__law_heaps an__law_heaps cd__law_heaps ct__law_heaps), sl__law_heaps⟩)
    (c__law_heaps : PySem.W.codeIn K cd__law_heaps "_law_heaps" = true)
    (k__law_heaps : PySem.W.keepIn K (.ref f__law_heaps) = true)
    (a__law_heap : PySem.W.nsIn K mainGlobals "_law_heap" = some (some (.ref f__law_heap)))
    (l__law_heap : K.lookup f__law_heap = some ⟨oc__law_heap, od__law_heap, .func (PySem.W.fnOf "_law_heap" "_law_heap" (defArgs s__law_heap) (defBody s__law_heap) (defScope s__law_heap) .none kV__law_heap dc__law_heap pm__law_heap an__law_heap cd__law_heap ct__law_heap), sl__law_heap⟩)
    (c__law_heap : PySem.W.codeIn K cd__law_heap "_law_heap" = true)
    (k__law_heap : PySem.W.keepIn K (.ref f__law_heap) = true)
    (a__law_up : PySem.W.nsIn K mainGlobals "_law_up" = some (some (.ref f__law_up)))
    (l__law_up : K.lookup f__law_up = some ⟨oc__law_up, od__law_up, .func (PySem.W.fnOf "_law_up" "_law_up" (defArgs s__law_up) (defBody s__law_up) (defScope s__law_up) .none kV__law_up dc__law_up pm__law_up an__law_up cd__law_up ct__law_up), sl__law_up⟩)
    (c__law_up : PySem.W.codeIn K cd__law_up "_law_up" = true)
    (k__law_up : PySem.W.keepIn K (.ref f__law_up) = true)
    (a__law_pushed : PySem.W.nsIn K mainGlobals "_law_pushed" = some (some (.ref f__law_pushed)))
    (l__law_pushed : K.lookup f__law_pushed = some ⟨oc__law_pushed, od__law_pushed, .func (PySem.W.fnOf "_law_pushed" "_law_pushed" (defArgs s__law_pushed) (defBody s__law_pushed) (defScope s__law_pushed) .none kV__law_pushed dc__law_pushed pm__law_pushed an__law_pushed cd__law_pushed ct__law_pushed), sl__law_pushed⟩)
    (c__law_pushed : PySem.W.codeIn K cd__law_pushed "_law_pushed" = true)
    (k__law_pushed : PySem.W.keepIn K (.ref f__law_pushed) = true)
    (a__law_unlike : PySem.W.nsIn K mainGlobals "_law_unlike" = some (some (.ref f__law_unlike)))
    (l__law_unlike : K.lookup f__law_unlike = some ⟨oc__law_unlike, od__law_unlike, .func (PySem.W.fnOf "_law_unlike" "_law_unlike" (defArgs s__law_unlike) (defBody s__law_unlike) (defScope s__law_unlike) .none kV__law_unlike dc__law_unlike pm__law_unlike an__law_unlike cd__law_unlike ct__law_unlike), sl__law_unlike⟩)
    (c__law_unlike : PySem.W.codeIn K cd__law_unlike "_law_unlike" = true)
    (k__law_unlike : PySem.W.keepIn K (.ref f__law_unlike) = true)
    (a__law_ahead : PySem.W.nsIn K mainGlobals "_law_ahead" = some (some (.ref f__law_ahead)))
    (l__law_ahead : K.lookup f__law_ahead = some ⟨oc__law_ahead, od__law_ahead, .func (PySem.W.fnOf "_law_ahead" "_law_ahead" (defArgs s__law_ahead) (defBody s__law_ahead) (defScope s__law_ahead) .none kV__law_ahead dc__law_ahead pm__law_ahead an__law_ahead cd__law_ahead ct__law_ahead), sl__law_ahead⟩)
    (c__law_ahead : PySem.W.codeIn K cd__law_ahead "_law_ahead" = true)
    (k__law_ahead : PySem.W.keepIn K (.ref f__law_ahead) = true)
    (a__law_undone_right : PySem.W.nsIn K mainGlobals "_law_undone_right" = some (some (.ref f__law_undone_right)))
    (l__law_undone_right : K.lookup f__law_undone_right = some ⟨oc__law_undone_right, od__law_undone_right, .func (PySem.W.fnOf "_law_undone_right" "_law_undone_right" (defArgs s__law_undone_right) (defBody s__law_undone_right) (defScope s__law_undone_right) .none kV__law_undone_right dc__law_undone_right pm__law_undone_right an__law_undone_right cd__law_undone_right ct__law_undone_right), sl__law_undone_right⟩)
    (c__law_undone_right : PySem.W.codeIn K cd__law_undone_right "_law_undone_right" = true)
    (k__law_undone_right : PySem.W.keepIn K (.ref f__law_undone_right) = true)
    (a_law : PySem.W.nsIn K mainGlobals "law" = some (some (.ref f_law)))
    (l_law : K.lookup f_law = some ⟨oc_law, od_law, .func (PySem.W.fnOf "law" "law" (defArgs s_law) (defBody s_law) (defScope s_law) .none kV_law dc_law pm_law an_law cd_law ct_law), sl_law⟩)
    (c_law : PySem.W.codeIn K cd_law "law" = true)
    (k_law : PySem.W.keepIn K (.ref f_law) = true)
    {tc_GREATEST_KEY : Tok}
    (q_GREATEST_KEY : PySem.W.nsIn K mainGlobals "GREATEST_KEY" = some (some (.int 1000000000 tc_GREATEST_KEY)))
    {tc_MOST_ARMS : Tok}
    (q_MOST_ARMS : PySem.W.nsIn K mainGlobals "MOST_ARMS" = some (some (.int 4 tc_MOST_ARMS)))
    {tc_MOST_PLACES : Tok}
    (q_MOST_PLACES : PySem.W.nsIn K mainGlobals "MOST_PLACES" = some (some (.int 12 tc_MOST_PLACES)))
    (z_any : PySem.W.nsIn K mainGlobals "any" = some none)
    (z_bool : PySem.W.nsIn K mainGlobals "bool" = some none)
    (z_enumerate : PySem.W.nsIn K mainGlobals "enumerate" = some none)
    (z_int : PySem.W.nsIn K mainGlobals "int" = some none)
    (z_isinstance : PySem.W.nsIn K mainGlobals "isinstance" = some none)
    (z_iter : PySem.W.nsIn K mainGlobals "iter" = some none)
    (z_len : PySem.W.nsIn K mainGlobals "len" = some none)
    (z_list : PySem.W.nsIn K mainGlobals "list" = some none)
    (z_min : PySem.W.nsIn K mainGlobals "min" = some none)
    (z_range : PySem.W.nsIn K mainGlobals "range" = some none)
    (z_reversed : PySem.W.nsIn K mainGlobals "reversed" = some none)
    (z_sorted : PySem.W.nsIn K mainGlobals "sorted" = some none)
    (z_sum : PySem.W.nsIn K mainGlobals "sum" = some none)
    (z_tuple : PySem.W.nsIn K mainGlobals "tuple" = some none)
    (z_zip : PySem.W.nsIn K mainGlobals "zip" = some none)
    (pg : PySem.W.plainGet K C Str.empty = true)
    (hd : PySem.W.hasDictIn K C = true)
    (po_ : PySem.W.plainOver K C = true)
    (sa : PySem.W.findIn K (.ref C) "__setattr__" = some (some (.builtin "object.__setattr__")))
    (na_nMany : PySem.W.findIn K (.ref C) "many" = some none)
    (na_nArms : PySem.W.findIn K (.ref C) "arms" = some none)
    (na_nPl : PySem.W.findIn K (.ref C) "_places" = some none)
    (mk : PySem.W.makesIn K C = true)
    (kc : PySem.W.keepIn K (.ref C) = true)
    (rd : PySem.W.readsIn K C (.type "type") = true)
    (ga : PySem.W.specialIn K (.ref C) "__getattribute__" = some (some (.builtin "type.__getattribute__")))
    (pgS : PySem.W.plainGet K CS Str.empty = true)
    (hdS : PySem.W.hasDictIn K CS = true)
    (po_S : PySem.W.plainOver K CS = true)
    (saS : PySem.W.findIn K (.ref CS) "__setattr__" = some (some (.builtin "object.__setattr__")))
    (na_nRow : PySem.W.findIn K (.ref CS) "row" = some none)
    (na_nWay : PySem.W.findIn K (.ref CS) "way" = some none)
    (na_nLooks : PySem.W.findIn K (.ref CS) "looks" = some none)
    (mkS : PySem.W.makesIn K CS = true)
    (kcS : PySem.W.keepIn K (.ref CS) = true)
    (pgP : PySem.W.plainGet K CP Str.empty = true)
    (hdP : PySem.W.hasDictIn K CP = true)
    (po_P : PySem.W.plainOver K CP = true)
    (saP : PySem.W.findIn K (.ref CP) "__setattr__" = some (some (.builtin "object.__setattr__")))
    (na_pRow : PySem.W.findIn K (.ref CP) "row" = some none)
    (na_pChanges : PySem.W.findIn K (.ref CP) "changes" = some none)
    (na_pLooks : PySem.W.findIn K (.ref CP) "looks" = some none)
    (mkP : PySem.W.makesIn K CP = true)
    (kcP : PySem.W.keepIn K (.ref CP) = true)
    (eneP : PySem.W.findIn K (.ref CP) "__ne__" = some (some (.builtin "object.__ne__")))
    (eobP : PySem.W.subIn K (.ref CP) (.type "object") = some true)
    (eniP : PySem.W.subIn K (.type "int") (.ref CP) = some false)
    (entP : PySem.W.subIn K (.type "tuple") (.ref CP) = some false)
    (kaP : PySem.W.findIn K (.ref CP) "__class__" = some (some (.builtin "object.__class__")))
    (knP : PySem.W.specialIn K (.builtin "object.__class__") "__get__" = some (some (.builtin "getset_descriptor.__get__")))
    (ktkP : PySem.W.takesIn K (.builtin "object.__class__") = some true)
    (kmP : PySem.W.mroIn K CP (.type "object") = some true)
    (kclP : PySem.W.isClsIn K CP = true)
    (ktyP : PySem.W.typeIn K (.ref CP) = some (.type "type"))
    (pgU : PySem.W.plainGet K CU Str.empty = true)
    (hdU : PySem.W.hasDictIn K CU = true)
    (po_U : PySem.W.plainOver K CU = true)
    (saU : PySem.W.findIn K (.ref CU) "__setattr__" = some (some (.builtin "object.__setattr__")))
    (na_uRow : PySem.W.findIn K (.ref CU) "row" = some none)
    (na_uKey : PySem.W.findIn K (.ref CU) "key" = some none)
    (mkU : PySem.W.makesIn K CU = true)
    (kcU : PySem.W.keepIn K (.ref CU) = true)
    (eneU : PySem.W.findIn K (.ref CU) "__ne__" = some (some (.builtin "object.__ne__")))
    (eobU : PySem.W.subIn K (.ref CU) (.type "object") = some true)
    (eniU : PySem.W.subIn K (.type "int") (.ref CU) = some false)
    (entU : PySem.W.subIn K (.type "tuple") (.ref CU) = some false)
    (kaU : PySem.W.findIn K (.ref CU) "__class__" = some (some (.builtin "object.__class__")))
    (knU : PySem.W.specialIn K (.builtin "object.__class__") "__get__" = some (some (.builtin "getset_descriptor.__get__")))
    (ktkU : PySem.W.takesIn K (.builtin "object.__class__") = some true)
    (kmU : PySem.W.mroIn K CU (.type "object") = some true)
    (kclU : PySem.W.isClsIn K CU = true)
    (ktyU : PySem.W.typeIn K (.ref CU) = some (.type "type"))
    (ensU_Stuck : PySem.W.subIn K (.ref CY) (.ref CU) = some false)
    (nesU_Stuck : (CY == CU) = false)
    (pgY : PySem.W.plainGet K CY Str.empty = true)
    (hdY : PySem.W.hasDictIn K CY = true)
    (po_Y : PySem.W.plainOver K CY = true)
    (saY : PySem.W.findIn K (.ref CY) "__setattr__" = some (some (.builtin "object.__setattr__")))
    (na_yPlace : PySem.W.findIn K (.ref CY) "place" = some none)
    (na_yOther : PySem.W.findIn K (.ref CY) "other" = some none)
    (mkY : PySem.W.makesIn K CY = true)
    (kcY : PySem.W.keepIn K (.ref CY) = true)
    (eneY : PySem.W.findIn K (.ref CY) "__ne__" = some (some (.builtin "object.__ne__")))
    (eobY : PySem.W.subIn K (.ref CY) (.type "object") = some true)
    (eniY : PySem.W.subIn K (.type "int") (.ref CY) = some false)
    (entY : PySem.W.subIn K (.type "tuple") (.ref CY) = some false)
    (kaY : PySem.W.findIn K (.ref CY) "__class__" = some (some (.builtin "object.__class__")))
    (knY : PySem.W.specialIn K (.builtin "object.__class__") "__get__" = some (some (.builtin "getset_descriptor.__get__")))
    (ktkY : PySem.W.takesIn K (.builtin "object.__class__") = some true)
    (kmY : PySem.W.mroIn K CY (.type "object") = some true)
    (kclY : PySem.W.isClsIn K CY = true)
    (ktyY : PySem.W.typeIn K (.ref CY) = some (.type "type"))
    (ensY_Undone : PySem.W.subIn K (.ref CU) (.ref CY) = some false)
    (nesY_Undone : (CU == CY) = false)
    (hT_undo_push : h.get? PP_undo_push = some (PySem.W.tabObj #[])) (hC_undo_push : PySem.W.codeHdIn K cc_undo_push PP_undo_push = true) (hN_undo_push : K.lookup PP_undo_push = none)
    : LamX.LawAtS l w K CX0 15 63 "script" mg fa h := by
  have e := hfa.symm.trans (PySem.W.mg_of X G a_law)
  cases e
  let A : Ad := { f_is_integer := f_is_integer, d_is_integer := (PySem.W.fnOf "is_integer" "is_integer" (defArgs s_is_integer) (defBody s_is_integer) (defScope s_is_integer) .none kV_is_integer dc_is_integer pm_is_integer an_is_integer cd_is_integer ct_is_integer), f_is_integer_from := f_is_integer_from, d_is_integer_from := (PySem.W.fnOf "is_integer_from" "is_integer_from" (defArgs s_is_integer_from) (defBody s_is_integer_from) (defScope s_is_integer_from) .none kV_is_integer_from dc_is_integer_from pm_is_integer_from an_is_integer_from cd_is_integer_from ct_is_integer_from), f_is_key := f_is_key, d_is_key := (PySem.W.fnOf "is_key" "is_key" (defArgs s_is_key) (defBody s_is_key) (defScope s_is_key) .none kV_is_key dc_is_key pm_is_key an_is_key cd_is_key ct_is_key), f_check_arms := f_check_arms, d_check_arms := (PySem.W.fnOf "check_arms" "check_arms" (defArgs s_check_arms) (defBody s_check_arms) (defScope s_check_arms) .none kV_check_arms dc_check_arms pm_check_arms an_check_arms cd_check_arms ct_check_arms), f_check_many := f_check_many, d_check_many := (PySem.W.fnOf "check_many" "check_many" (defArgs s_check_many) (defBody s_check_many) (defScope s_check_many) .none kV_check_many dc_check_many pm_check_many an_check_many cd_check_many ct_check_many), f_check_place := f_check_place, d_check_place := (PySem.W.fnOf "check_place" "check_place" (defArgs s_check_place) (defBody s_check_place) (defScope s_check_place) .none kV_check_place dc_check_place pm_check_place an_check_place cd_check_place ct_check_place), f_check_key := f_check_key, d_check_key := (PySem.W.fnOf "check_key" "check_key" (defArgs s_check_key) (defBody s_check_key) (defScope s_check_key) .none kV_check_key dc_check_key pm_check_key an_check_key cd_check_key ct_check_key), f_row_of := f_row_of, d_row_of := (PySem.W.fnOf "row_of" "row_of" (defArgs s_row_of) (defBody s_row_of) (defScope s_row_of) .none kV_row_of dc_row_of pm_row_of an_row_of cd_row_of ct_row_of), f_check_different := f_check_different, d_check_different := (PySem.W.fnOf "check_different" "check_different" (defArgs s_check_different) (defBody s_check_different) (defScope s_check_different) .none kV_check_different dc_check_different pm_check_different an_check_different cd_check_different ct_check_different), f_t___init__ := f_t___init__, d_t___init__ := (PySem.W.fnOf "__init__" "Tree.__init__" (defArgs s_t___init__) (defBody s_t___init__) (defScope s_t___init__) .none (.ref D_t___init__) dc_t___init__ pm_t___init__ an_t___init__ cd_t___init__ ct_t___init__), f_t_of := f_t_of, d_t_of := (PySem.W.fnOf "of" "Tree.of" (defArgs s_t_of) (defBody s_t_of) (defScope s_t_of) .none (.ref D_t_of) dc_t_of pm_t_of an_t_of cd_t_of ct_t_of), f_t___len__ := f_t___len__, d_t___len__ := (PySem.W.fnOf "__len__" "Tree.__len__" (defArgs s_t___len__) (defBody s_t___len__) (defScope s_t___len__) .none kV_t___len__ dc_t___len__ pm_t___len__ an_t___len__ cd_t___len__ ct_t___len__), f_t___contains__ := f_t___contains__, d_t___contains__ := (PySem.W.fnOf "__contains__" "Tree.__contains__" (defArgs s_t___contains__) (defBody s_t___contains__) (defScope s_t___contains__) .none kV_t___contains__ dc_t___contains__ pm_t___contains__ an_t___contains__ cd_t___contains__ ct_t___contains__), f_t___iter__ := f_t___iter__, d_t___iter__ := (PySem.W.fnOf "__iter__" "Tree.__iter__" (defArgs s_t___iter__) (defBody s_t___iter__) (defScope s_t___iter__) .none kV_t___iter__ dc_t___iter__ pm_t___iter__ an_t___iter__ cd_t___iter__ ct_t___iter__), f_t___getitem__ := f_t___getitem__, d_t___getitem__ := (PySem.W.fnOf "__getitem__" "Tree.__getitem__" (defArgs s_t___getitem__) (defBody s_t___getitem__) (defScope s_t___getitem__) .none kV_t___getitem__ dc_t___getitem__ pm_t___getitem__ an_t___getitem__ cd_t___getitem__ ct_t___getitem__), f_t_parent := f_t_parent, d_t_parent := (PySem.W.fnOf "parent" "Tree.parent" (defArgs s_t_parent) (defBody s_t_parent) (defScope s_t_parent) .none kV_t_parent dc_t_parent pm_t_parent an_t_parent cd_t_parent ct_t_parent), f_t_way_to := f_t_way_to, d_t_way_to := (PySem.W.fnOf "way_to" "Tree.way_to" (defArgs s_t_way_to) (defBody s_t_way_to) (defScope s_t_way_to) .none kV_t_way_to dc_t_way_to pm_t_way_to an_t_way_to cd_t_way_to ct_t_way_to), f_t_depth := f_t_depth, d_t_depth := (PySem.W.fnOf "depth" "Tree.depth" (defArgs s_t_depth) (defBody s_t_depth) (defScope s_t_depth) .none kV_t_depth dc_t_depth pm_t_depth an_t_depth cd_t_depth ct_t_depth), f_is_heap := f_is_heap, d_is_heap := (PySem.W.fnOf "is_heap" "is_heap" (defArgs s_is_heap) (defBody s_is_heap) (defScope s_is_heap) .none (.ref D_is_heap) dc_is_heap pm_is_heap an_is_heap cd_is_heap ct_is_heap), f_faults := f_faults, d_faults := (PySem.W.fnOf "faults" "faults" (defArgs s_faults) (defBody s_faults) (defScope s_faults) .none (.ref D_faults) dc_faults pm_faults an_faults cd_faults ct_faults), f_heap_of := f_heap_of, d_heap_of := (PySem.W.fnOf "heap_of" "heap_of" (defArgs s_heap_of) (defBody s_heap_of) (defScope s_heap_of) .none kV_heap_of dc_heap_of pm_heap_of an_heap_of cd_heap_of ct_heap_of), f_different_heap_of := f_different_heap_of, d_different_heap_of := (PySem.W.fnOf "different_heap_of" "different_heap_of" (defArgs s_different_heap_of) (defBody s_different_heap_of) (defScope s_different_heap_of) .none kV_different_heap_of dc_different_heap_of pm_different_heap_of an_different_heap_of cd_different_heap_of ct_different_heap_of), f_z___init__ := f_z___init__, d_z___init__ := (PySem.W.fnOf "__init__" "Sift.__init__" (defArgs s_z___init__) (defBody s_z___init__) (defScope s_z___init__) .none kV_z___init__ dc_z___init__ pm_z___init__ an_z___init__ cd_z___init__ ct_z___init__), f_sift_up := f_sift_up, d_sift_up := (PySem.W.fnOf "sift_up" "sift_up" (defArgs s_sift_up) (defBody s_sift_up) (defScope s_sift_up) .none (.ref D_sift_up) dc_sift_up pm_sift_up an_sift_up cd_sift_up ct_sift_up), f_row_before := f_row_before, d_row_before := (PySem.W.fnOf "row_before" "row_before" (defArgs s_row_before) (defBody s_row_before) (defScope s_row_before) .none kV_row_before dc_row_before pm_row_before an_row_before cd_row_before ct_row_before), f_push := f_push, d_push := (PySem.W.fnOf "push" "push" (defArgs s_push) (defBody s_push) (defScope s_push) .none (.ref D_push) dc_push pm_push an_push cd_push ct_push), f_check_filled := f_check_filled, d_check_filled := (PySem.W.fnOf "check_filled" "check_filled" (defArgs s_check_filled) (defBody s_check_filled) (defScope s_check_filled) .none kV_check_filled dc_check_filled pm_check_filled an_check_filled cd_check_filled ct_check_filled), f_p___init__ := f_p___init__, d_p___init__ := (PySem.W.fnOf "__init__" "Pushed.__init__" (defArgs s_p___init__) (defBody s_p___init__) (defScope s_p___init__) .none kV_p___init__ dc_p___init__ pm_p___init__ an_p___init__ cd_p___init__ ct_p___init__), f_p___eq__ := f_p___eq__, d_p___eq__ := (PySem.W.fnOf "__eq__" "Pushed.__eq__" (defArgs s_p___eq__) (defBody s_p___eq__) (defScope s_p___eq__) .none kV_p___eq__ dc_p___eq__ pm_p___eq__ an_p___eq__ cd_p___eq__ ct_p___eq__), f_u___init__ := f_u___init__, d_u___init__ := (PySem.W.fnOf "__init__" "Undone.__init__" (defArgs s_u___init__) (defBody s_u___init__) (defScope s_u___init__) .none kV_u___init__ dc_u___init__ pm_u___init__ an_u___init__ cd_u___init__ ct_u___init__), f_u___eq__ := f_u___eq__, d_u___eq__ := (PySem.W.fnOf "__eq__" "Undone.__eq__" (defArgs s_u___eq__) (defBody s_u___eq__) (defScope s_u___eq__) .none kV_u___eq__ dc_u___eq__ pm_u___eq__ an_u___eq__ cd_u___eq__ ct_u___eq__), f_u_shows := f_u_shows, d_u_shows := (PySem.W.fnOf "shows" "Undone.shows" (defArgs s_u_shows) (defBody s_u_shows) (defScope s_u_shows) .none (.ref D_u_shows) dc_u_shows pm_u_shows an_u_shows cd_u_shows ct_u_shows), f_y___init__ := f_y___init__, d_y___init__ := (PySem.W.fnOf "__init__" "Stuck.__init__" (defArgs s_y___init__) (defBody s_y___init__) (defScope s_y___init__) .none kV_y___init__ dc_y___init__ pm_y___init__ an_y___init__ cd_y___init__ ct_y___init__), f_y___eq__ := f_y___eq__, d_y___eq__ := (PySem.W.fnOf "__eq__" "Stuck.__eq__" (defArgs s_y___eq__) (defBody s_y___eq__) (defScope s_y___eq__) .none kV_y___eq__ dc_y___eq__ pm_y___eq__ an_y___eq__ cd_y___eq__ ct_y___eq__), f_y_shows := f_y_shows, d_y_shows := (PySem.W.fnOf "shows" "Stuck.shows" (defArgs s_y_shows) (defBody s_y_shows) (defScope s_y_shows) .none (.ref D_y_shows) dc_y_shows pm_y_shows an_y_shows cd_y_shows ct_y_shows), f_push_all := f_push_all, d_push_all := (PySem.W.fnOf "push_all" "push_all" (defArgs s_push_all) (defBody s_push_all) (defScope s_push_all) .none (.ref D_push_all) dc_push_all pm_push_all an_push_all cd_push_all ct_push_all), f_most_pushed := f_most_pushed, d_most_pushed := (PySem.W.fnOf "most_pushed" "most_pushed" (defArgs s_most_pushed) (defBody s_most_pushed) (defScope s_most_pushed) .none (.ref D_most_pushed) dc_most_pushed pm_most_pushed an_most_pushed cd_most_pushed ct_most_pushed), f_undo_push := f_undo_push, d_undo_push := (PySem.W.fnOf "undo_push" "undo_push" (defArgs s_undo_push) (defBody s_undo_push) (defScope s_undo_push) .none (.ref D_undo_push) dc_undo_push pm_undo_push an_undo_push (.ref cc_undo_push) ct_undo_push), f_last_places := f_last_places, d_last_places := (PySem.W.fnOf "last_places" "last_places" (defArgs s_last_places) (defBody s_last_places) (defScope s_last_places) .none (.ref D_last_places) dc_last_places pm_last_places an_last_places cd_last_places ct_last_places), f_last_way := f_last_way, d_last_way := (PySem.W.fnOf "last_way" "last_way" (defArgs s_last_way) (defBody s_last_way) (defScope s_last_way) .none kV_last_way dc_last_way pm_last_way an_last_way cd_last_way ct_last_way), f_heap_and_way_below := f_heap_and_way_below, d_heap_and_way_below := (PySem.W.fnOf "heap_and_way_below" "heap_and_way_below" (defArgs s_heap_and_way_below) (defBody s_heap_and_way_below) (defScope s_heap_and_way_below) .none kV_heap_and_way_below dc_heap_and_way_below pm_heap_and_way_below an_heap_and_way_below cd_heap_and_way_below ct_heap_and_way_below), f__law_number := f__law_number, d__law_number := (PySem.W.fnOf "_law_number" "_law_number" (defArgs s__law_number) (defBody s__law_number) (defScope s__law_number) .none kV__law_number dc__law_number pm__law_number an__law_number cd__law_number ct__law_number), f__law_take := f__law_take, d__law_take := (PySem.W.fnOf "_law_take" "_law_take" (defArgs s__law_take) (defBody s__law_take) (defScope s__law_take) .none kV__law_take dc__law_take pm__law_take an__law_take cd__law_take ct__law_take), f__law_pick := f__law_pick, d__law_pick := (PySem.W.fnOf "_law_pick" "_law_pick" (defArgs s__law_pick) (defBody s__law_pick) (defScope s__law_pick) .none kV__law_pick dc__law_pick pm__law_pick an__law_pick cd__law_pick ct__law_pick), f__law_parent := f__law_parent, d__law_parent := (PySem.W.fnOf "_law_parent" "_law_parent" (defArgs s__law_parent) (defBody s__law_parent) (defScope s__law_parent) .none kV__law_parent dc__law_parent pm__law_parent an__law_parent cd__law_parent ct__law_parent), f__law_children := f__law_children, d__law_children := (PySem.W.fnOf "_law_children" "_law_children" (defArgs s__law_children) (defBody s__law_children) (defScope s__law_children) .none kV__law_children dc__law_children pm__law_children an__law_children cd__law_children ct__law_children), f__law_way := f__law_way, d__law_way := (PySem.W.fnOf "_law_way" "_law_way" (defArgs s__law_way) (defBody s__law_way) (defScope s__law_way) .none kV__law_way dc__law_way pm__law_way an__law_way cd__law_way ct__law_way), f__law_arms := f__law_arms, d__law_arms := (PySem.W.fnOf "_law_arms" "_law_arms" (defArgs s__law_arms) (defBody s__law_arms) (defScope s__law_arms) .none kV__law_arms dc__law_arms pm__law_arms an__law_arms cd__law_arms ct__law_arms), f__law_keys := f__law_keys, d__law_keys := (PySem.W.fnOf "_law_keys" "_law_keys" (defArgs s__law_keys) (defBody s__law_keys) (defScope s__law_keys) .none kV__law_keys dc__law_keys pm__law_keys an__law_keys cd__law_keys ct__law_keys), f__law_order := f__law_order, d__law_order := (PySem.W.fnOf "_law_order" "_law_order" (defArgs s__law_order) (defBody s__law_order) (defScope s__law_order) .none kV__law_order dc__law_order pm__law_order an__law_order cd__law_order ct__law_order), f__law_is_heap := f__law_is_heap, d__law_is_heap := (PySem.W.fnOf "_law_is_heap" "_law_is_heap" (defArgs s__law_is_heap) (defBody s__law_is_heap) (defScope s__law_is_heap) .none kV__law_is_heap dc__law_is_heap pm__law_is_heap an__law_is_heap cd__law_is_heap ct__law_is_heap), f__law_lists := f__law_lists, d__law_lists := (PySem.W.fnOf "_law_lists" "_law_lists" (defArgs s__law_lists) (defBody s__law_lists) (defScope s__law_lists) .none kV__law_lists dc__law_lists pm__law_lists an__law_lists cd__law_lists ct__law_lists), f__law_heaps := f__law_heaps, d__law_heaps := (PySem.W.fnOf "_law_heaps" "_law_heaps" (defArgs s__law_heaps) (defBody s__law_heaps) (defScope s__law_heaps) .none kV__law_heaps dc__law_heaps pm__law_heaps an__law_heaps cd__law_heaps ct__law_heaps), f__law_heap := f__law_heap, d__law_heap := (PySem.W.fnOf "_law_heap" "_law_heap" (defArgs s__law_heap) (defBody s__law_heap) (defScope s__law_heap) .none kV__law_heap dc__law_heap pm__law_heap an__law_heap cd__law_heap ct__law_heap), f__law_up := f__law_up, d__law_up := (PySem.W.fnOf "_law_up" "_law_up" (defArgs s__law_up) (defBody s__law_up) (defScope s__law_up) .none kV__law_up dc__law_up pm__law_up an__law_up cd__law_up ct__law_up), f__law_pushed := f__law_pushed, d__law_pushed := (PySem.W.fnOf "_law_pushed" "_law_pushed" (defArgs s__law_pushed) (defBody s__law_pushed) (defScope s__law_pushed) .none kV__law_pushed dc__law_pushed pm__law_pushed an__law_pushed cd__law_pushed ct__law_pushed), f__law_unlike := f__law_unlike, d__law_unlike := (PySem.W.fnOf "_law_unlike" "_law_unlike" (defArgs s__law_unlike) (defBody s__law_unlike) (defScope s__law_unlike) .none kV__law_unlike dc__law_unlike pm__law_unlike an__law_unlike cd__law_unlike ct__law_unlike), f__law_ahead := f__law_ahead, d__law_ahead := (PySem.W.fnOf "_law_ahead" "_law_ahead" (defArgs s__law_ahead) (defBody s__law_ahead) (defScope s__law_ahead) .none kV__law_ahead dc__law_ahead pm__law_ahead an__law_ahead cd__law_ahead ct__law_ahead), f__law_undone_right := f__law_undone_right, d__law_undone_right := (PySem.W.fnOf "_law_undone_right" "_law_undone_right" (defArgs s__law_undone_right) (defBody s__law_undone_right) (defScope s__law_undone_right) .none kV__law_undone_right dc__law_undone_right pm__law_undone_right an__law_undone_right cd__law_undone_right ct__law_undone_right), f_law := fa, d_law := (PySem.W.fnOf "law" "law" (defArgs s_law) (defBody s_law) (defScope s_law) .none kV_law dc_law pm_law an_law cd_law ct_law), C := C, CS := CS, CP := CP, CU := CU, CY := CY, po := po, c_undo_push := cc_undo_push, P_undo_push := PP_undo_push }
  have T : Tx K mg A := {
    F_is_integer := (fun_mk (st := s_is_integer) l_is_integer c_is_integer k_is_integer)
    m_is_integer := PySem.W.mg_of X G a_is_integer
    F_is_integer_from := (fun_mk (st := s_is_integer_from) l_is_integer_from c_is_integer_from k_is_integer_from)
    m_is_integer_from := PySem.W.mg_of X G a_is_integer_from
    F_is_key := (fun_mk (st := s_is_key) l_is_key c_is_key k_is_key)
    m_is_key := PySem.W.mg_of X G a_is_key
    F_check_arms := (fun_mk (st := s_check_arms) l_check_arms c_check_arms k_check_arms)
    m_check_arms := PySem.W.mg_of X G a_check_arms
    F_check_many := (fun_mk (st := s_check_many) l_check_many c_check_many k_check_many)
    m_check_many := PySem.W.mg_of X G a_check_many
    F_check_place := (fun_mk (st := s_check_place) l_check_place c_check_place k_check_place)
    m_check_place := PySem.W.mg_of X G a_check_place
    F_check_key := (fun_mk (st := s_check_key) l_check_key c_check_key k_check_key)
    m_check_key := PySem.W.mg_of X G a_check_key
    F_row_of := (fun_mk (st := s_row_of) l_row_of c_row_of k_row_of)
    m_row_of := PySem.W.mg_of X G a_row_of
    F_check_different := (fun_mk (st := s_check_different) l_check_different c_check_different k_check_different)
    m_check_different := PySem.W.mg_of X G a_check_different
    F_t___init__ := ⟨⟨_, _, _, _, _, _, _, _, _, _, rfl, l_t___init__, c_t___init__, .inl ⟨rfl, rfl⟩, .inr ⟨_, rfl, fun q hq => by rw [List.mem_singleton.mp hq]; exact ⟨_, w_t___init__, relI _ _⟩⟩⟩, k_t___init__⟩
    F_t_of := ⟨⟨_, _, _, _, _, _, _, _, _, _, rfl, l_t_of, c_t_of, .inl ⟨rfl, rfl⟩, .inr ⟨_, rfl, fun q hq => by rw [List.mem_singleton.mp hq]; exact ⟨_, w_t_of, relI _ _⟩⟩⟩, k_t_of⟩
    F_t___len__ := (fun_mk (st := s_t___len__) l_t___len__ c_t___len__ k_t___len__)
    D_t___len__ := ⟨a_t___len__, i_t___len__, n_t___len__⟩
    F_t___contains__ := (fun_mk (st := s_t___contains__) l_t___contains__ c_t___contains__ k_t___contains__)
    D_t___contains__ := ⟨a_t___contains__, i_t___contains__, n_t___contains__⟩
    F_t___iter__ := (fun_mk (st := s_t___iter__) l_t___iter__ c_t___iter__ k_t___iter__)
    D_t___iter__ := ⟨a_t___iter__, i_t___iter__, n_t___iter__⟩
    F_t___getitem__ := (fun_mk (st := s_t___getitem__) l_t___getitem__ c_t___getitem__ k_t___getitem__)
    D_t___getitem__ := ⟨a_t___getitem__, i_t___getitem__, n_t___getitem__⟩
    F_t_parent := (fun_mk (st := s_t_parent) l_t_parent c_t_parent k_t_parent)
    M_t_parent := ⟨a_t_parent, i_t_parent, k_t_parent⟩
    F_t_way_to := (fun_mk (st := s_t_way_to) l_t_way_to c_t_way_to k_t_way_to)
    M_t_way_to := ⟨a_t_way_to, i_t_way_to, k_t_way_to⟩
    F_t_depth := (fun_mk (st := s_t_depth) l_t_depth c_t_depth k_t_depth)
    M_t_depth := ⟨a_t_depth, i_t_depth, k_t_depth⟩
    F_is_heap := ⟨⟨_, _, _, _, _, _, _, _, _, _, rfl, l_is_heap, c_is_heap, .inl ⟨rfl, rfl⟩, .inr ⟨_, rfl, fun q hq => by rw [List.mem_singleton.mp hq]; exact ⟨_, w_is_heap, relI _ _⟩⟩⟩, k_is_heap⟩
    m_is_heap := PySem.W.mg_of X G a_is_heap
    F_faults := ⟨⟨_, _, _, _, _, _, _, _, _, _, rfl, l_faults, c_faults, .inl ⟨rfl, rfl⟩, .inr ⟨_, rfl, fun q hq => by rw [List.mem_singleton.mp hq]; exact ⟨_, w_faults, relI _ _⟩⟩⟩, k_faults⟩
    m_faults := PySem.W.mg_of X G a_faults
    F_heap_of := (fun_mk (st := s_heap_of) l_heap_of c_heap_of k_heap_of)
    m_heap_of := PySem.W.mg_of X G a_heap_of
    F_different_heap_of := (fun_mk (st := s_different_heap_of) l_different_heap_of c_different_heap_of k_different_heap_of)
    m_different_heap_of := PySem.W.mg_of X G a_different_heap_of
    F_z___init__ := (fun_mk (st := s_z___init__) l_z___init__ c_z___init__ k_z___init__)
    F_sift_up := ⟨⟨_, _, _, _, _, _, _, _, _, _, rfl, l_sift_up, c_sift_up, .inl ⟨rfl, rfl⟩, .inr ⟨_, rfl, fun q hq => by rw [List.mem_singleton.mp hq]; exact ⟨_, w_sift_up, relI _ _⟩⟩⟩, k_sift_up⟩
    m_sift_up := PySem.W.mg_of X G a_sift_up
    F_row_before := (fun_mk (st := s_row_before) l_row_before c_row_before k_row_before)
    m_row_before := PySem.W.mg_of X G a_row_before
    F_push := ⟨⟨_, _, _, _, _, _, _, _, _, _, rfl, l_push, c_push, .inl ⟨rfl, rfl⟩, .inr ⟨_, rfl, fun q hq => by rw [List.mem_singleton.mp hq]; exact ⟨_, w_push, relI _ _⟩⟩⟩, k_push⟩
    m_push := PySem.W.mg_of X G a_push
    F_check_filled := (fun_mk (st := s_check_filled) l_check_filled c_check_filled k_check_filled)
    m_check_filled := PySem.W.mg_of X G a_check_filled
    F_p___init__ := (fun_mk (st := s_p___init__) l_p___init__ c_p___init__ k_p___init__)
    F_p___eq__ := (fun_mk (st := s_p___eq__) l_p___eq__ c_p___eq__ k_p___eq__)
    F_u___init__ := (fun_mk (st := s_u___init__) l_u___init__ c_u___init__ k_u___init__)
    F_u___eq__ := (fun_mk (st := s_u___eq__) l_u___eq__ c_u___eq__ k_u___eq__)
    F_u_shows := ⟨⟨_, _, _, _, _, _, _, _, _, _, rfl, l_u_shows, c_u_shows, .inl ⟨rfl, rfl⟩, .inr ⟨_, rfl, fun q hq => by rw [List.mem_singleton.mp hq]; exact ⟨_, w_u_shows, relI _ _⟩⟩⟩, k_u_shows⟩
    M_u_shows := ⟨a_u_shows, i_u_shows, k_u_shows⟩
    F_y___init__ := (fun_mk (st := s_y___init__) l_y___init__ c_y___init__ k_y___init__)
    F_y___eq__ := (fun_mk (st := s_y___eq__) l_y___eq__ c_y___eq__ k_y___eq__)
    F_y_shows := ⟨⟨_, _, _, _, _, _, _, _, _, _, rfl, l_y_shows, c_y_shows, .inl ⟨rfl, rfl⟩, .inr ⟨_, rfl, fun q hq => by rw [List.mem_singleton.mp hq]; exact ⟨_, w_y_shows, relI _ _⟩⟩⟩, k_y_shows⟩
    M_y_shows := ⟨a_y_shows, i_y_shows, k_y_shows⟩
    F_push_all := ⟨⟨_, _, _, _, _, _, _, _, _, _, rfl, l_push_all, c_push_all, .inl ⟨rfl, rfl⟩, .inr ⟨_, rfl, fun q hq => by rw [List.mem_singleton.mp hq]; exact ⟨_, w_push_all, relI _ _⟩⟩⟩, k_push_all⟩
    m_push_all := PySem.W.mg_of X G a_push_all
    F_most_pushed := ⟨⟨_, _, _, _, _, _, _, _, _, _, rfl, l_most_pushed, c_most_pushed, .inl ⟨rfl, rfl⟩, .inr ⟨_, rfl, fun q hq => by rw [List.mem_singleton.mp hq]; exact ⟨_, w_most_pushed, relI _ _⟩⟩⟩, k_most_pushed⟩
    m_most_pushed := PySem.W.mg_of X G a_most_pushed
    L_undo_push := ⟨_, _, _, _, _, _, _, _, rfl, l_undo_push, c_undo_push⟩
    F_undo_push := ⟨⟨_, _, _, _, _, _, _, _, _, _, rfl, l_undo_push, c_undo_push, .inl ⟨rfl, rfl⟩, .inr ⟨_, rfl, fun q hq => by rw [List.mem_singleton.mp hq]; exact ⟨_, w_undo_push, relI _ _⟩⟩⟩, k_undo_push⟩
    m_undo_push := PySem.W.mg_of X G a_undo_push
    F_last_places := ⟨⟨_, _, _, _, _, _, _, _, _, _, rfl, l_last_places, c_last_places, .inl ⟨rfl, rfl⟩, .inr ⟨_, rfl, fun q hq => by rw [List.mem_singleton.mp hq]; exact ⟨_, w_last_places, relI _ _⟩⟩⟩, k_last_places⟩
    m_last_places := PySem.W.mg_of X G a_last_places
    F_last_way := (fun_mk (st := s_last_way) l_last_way c_last_way k_last_way)
    m_last_way := PySem.W.mg_of X G a_last_way
    F_heap_and_way_below := (fun_mk (st := s_heap_and_way_below) l_heap_and_way_below c_heap_and_way_below k_heap_and_way_below)
    m_heap_and_way_below := PySem.W.mg_of X G a_heap_and_way_below
    F__law_number := (fun_mk (st := s__law_number) l__law_number c__law_number k__law_number)
    m__law_number := PySem.W.mg_of X G a__law_number
    F__law_take := (fun_mk (st := s__law_take) l__law_take c__law_take k__law_take)
    m__law_take := PySem.W.mg_of X G a__law_take
    F__law_pick := (fun_mk (st := s__law_pick) l__law_pick c__law_pick k__law_pick)
    m__law_pick := PySem.W.mg_of X G a__law_pick
    F__law_parent := (fun_mk (st := s__law_parent) l__law_parent c__law_parent k__law_parent)
    m__law_parent := PySem.W.mg_of X G a__law_parent
    F__law_children := (fun_mk (st := s__law_children) l__law_children c__law_children k__law_children)
    m__law_children := PySem.W.mg_of X G a__law_children
    F__law_way := (fun_mk (st := s__law_way) l__law_way c__law_way k__law_way)
    m__law_way := PySem.W.mg_of X G a__law_way
    F__law_arms := (fun_mk (st := s__law_arms) l__law_arms c__law_arms k__law_arms)
    m__law_arms := PySem.W.mg_of X G a__law_arms
    F__law_keys := (fun_mk (st := s__law_keys) l__law_keys c__law_keys k__law_keys)
    m__law_keys := PySem.W.mg_of X G a__law_keys
    F__law_order := (fun_mk (st := s__law_order) l__law_order c__law_order k__law_order)
    m__law_order := PySem.W.mg_of X G a__law_order
    F__law_is_heap := (fun_mk (st := s__law_is_heap) l__law_is_heap c__law_is_heap k__law_is_heap)
    m__law_is_heap := PySem.W.mg_of X G a__law_is_heap
    F__law_lists := (fun_mk (st := s__law_lists) l__law_lists c__law_lists k__law_lists)
    m__law_lists := PySem.W.mg_of X G a__law_lists
    F__law_heaps := (fun_mk (st := s__law_heaps) l__law_heaps c__law_heaps k__law_heaps)
    m__law_heaps := PySem.W.mg_of X G a__law_heaps
    F__law_heap := (fun_mk (st := s__law_heap) l__law_heap c__law_heap k__law_heap)
    m__law_heap := PySem.W.mg_of X G a__law_heap
    F__law_up := (fun_mk (st := s__law_up) l__law_up c__law_up k__law_up)
    m__law_up := PySem.W.mg_of X G a__law_up
    F__law_pushed := (fun_mk (st := s__law_pushed) l__law_pushed c__law_pushed k__law_pushed)
    m__law_pushed := PySem.W.mg_of X G a__law_pushed
    F__law_unlike := (fun_mk (st := s__law_unlike) l__law_unlike c__law_unlike k__law_unlike)
    m__law_unlike := PySem.W.mg_of X G a__law_unlike
    F__law_ahead := (fun_mk (st := s__law_ahead) l__law_ahead c__law_ahead k__law_ahead)
    m__law_ahead := PySem.W.mg_of X G a__law_ahead
    F__law_undone_right := (fun_mk (st := s__law_undone_right) l__law_undone_right c__law_undone_right k__law_undone_right)
    m__law_undone_right := PySem.W.mg_of X G a__law_undone_right
    F_law := (fun_mk (st := s_law) l_law c_law k_law)
    m_law := PySem.W.mg_of X G a_law
    c_GREATEST_KEY := .inr ⟨_, PySem.W.mg_of X G q_GREATEST_KEY⟩
    c_MOST_ARMS := .inr ⟨_, PySem.W.mg_of X G q_MOST_ARMS⟩
    c_MOST_PLACES := .inr ⟨_, PySem.W.mg_of X G q_MOST_PLACES⟩
    g_any := PySem.W.mg_none_of X G z_any
    g_bool := PySem.W.mg_none_of X G z_bool
    g_enumerate := PySem.W.mg_none_of X G z_enumerate
    g_int := PySem.W.mg_none_of X G z_int
    g_isinstance := PySem.W.mg_none_of X G z_isinstance
    g_iter := PySem.W.mg_none_of X G z_iter
    g_len := PySem.W.mg_none_of X G z_len
    g_list := PySem.W.mg_none_of X G z_list
    g_min := PySem.W.mg_none_of X G z_min
    g_range := PySem.W.mg_none_of X G z_range
    g_reversed := PySem.W.mg_none_of X G z_reversed
    g_sorted := PySem.W.mg_none_of X G z_sorted
    g_sum := PySem.W.mg_none_of X G z_sum
    g_tuple := PySem.W.mg_none_of X G z_tuple
    g_zip := PySem.W.mg_none_of X G z_zip
    cT := ⟨pg, hd, po_, sa⟩
    nMany := na_nMany
    nArms := na_nArms
    nPl := na_nPl
    mC := PySem.W.mg_of X G aC
    mkC := ⟨mk, a_t___init__, i_t___init__, kc⟩
    cr := ⟨rd, ga⟩
    cof := ⟨a_t_of, ⟨_, r_t_of⟩, n_t_of⟩
    cTS := ⟨pgS, hdS, po_S, saS⟩
    nRow := na_nRow
    nWay := na_nWay
    nLooks := na_nLooks
    mCS := PySem.W.mg_of X G aCS
    mkCS := ⟨mkS, a_z___init__, i_z___init__, kcS⟩
    cTP := ⟨pgP, hdP, po_P, saP⟩
    pRow := na_pRow
    pChanges := na_pChanges
    pLooks := na_pLooks
    mCP := PySem.W.mg_of X G aCP
    mkCP := ⟨mkP, a_p___init__, i_p___init__, kcP⟩
    eqcP := ⟨a_p___eq__, i_p___eq__, eneP, eobP, eniP, entP⟩
    kaP := kaP
    knP := knP
    ktkP := ktkP
    kmP := kmP
    kiP_int := kit_no kclP ktyP eniP
    kiP_tuple := kit_no kclP ktyP entP
    cTU := ⟨pgU, hdU, po_U, saU⟩
    uRow := na_uRow
    uKey := na_uKey
    mCU := PySem.W.mg_of X G aCU
    mkCU := ⟨mkU, a_u___init__, i_u___init__, kcU⟩
    eqcU := ⟨a_u___eq__, i_u___eq__, eneU, eobU, eniU, entU⟩
    kaU := kaU
    knU := knU
    ktkU := ktkU
    kmU := kmU
    kiU_int := kit_no kclU ktyU eniU
    kiU_tuple := kit_no kclU ktyU entU
    nfU_CY := by unfold PySem.W.notFirst; rw [ensU_Stuck]; simp
    kiU_CY := kit_no2 kclU ktyU ensU_Stuck nesU_Stuck
    cTY := ⟨pgY, hdY, po_Y, saY⟩
    yPlace := na_yPlace
    yOther := na_yOther
    mCY := PySem.W.mg_of X G aCY
    mkCY := ⟨mkY, a_y___init__, i_y___init__, kcY⟩
    eqcY := ⟨a_y___eq__, i_y___eq__, eneY, eobY, eniY, entY⟩
    kaY := kaY
    knY := knY
    ktkY := ktkY
    kmY := kmY
    kiY_int := kit_no kclY ktyY eniY
    kiY_tuple := kit_no kclY ktyY entY
    nfY_CU := by unfold PySem.W.notFirst; rw [ensY_Undone]; simp
    kiY_CU := kit_no2 kclY ktyY ensY_Undone nesY_Undone
  }
  refine ⟨A.d_law, [(cc_undo_push, PP_undo_push)], spLaw K A, fun p hp => by
    simp only [List.mem_cons, List.not_mem_nil, or_false] at hp
    rcases hp with rfl
    · exact hT_undo_push, ?_, ?_, fun s v => .of_eq rfl, fun H a ns hl hb hH hS => ⟨a, ns, rfl, hS, hl, fun p hp => ?_, fun _ => rfl⟩, fun base _ _ hTB => ok_law T (hTB (cc_undo_push, PP_undo_push) (by simp))⟩
  · exact fun p hp => by
      simp only [List.mem_cons, List.not_mem_nil, or_false] at hp
      rcases hp with rfl
      · exact hN_undo_push
  · exact fun p hp => by
      simp only [List.mem_cons, List.not_mem_nil, or_false] at hp
      rcases hp with rfl
      · exact PySem.W.codeHd_of_K X hC_undo_push
  · unfold TT at hp
    simp only [List.mem_cons, List.not_mem_nil, or_false] at hp
    rcases hp with rfl
    · exact LamX.TabS.nil (hH (cc_undo_push, PP_undo_push) (by simp))
theorem walk {l : PySem.W.OpenLaw} {q : Program} {loose : List Str} {XP : (Str → Option Value) → Heap → Prop} {YP : World → Heap → Prop} {d : DefRec} {K : Params → PySem.W.Frag} (hn : l.most = some 63) (hdf : d.params.defaults = [])
    (hY : ∀ (w : World) (h : Heap), YP w h → (K w.params).In h)
    (F : ∀ (w : World) (mg : Str → Option Value) (fa : Addr) (h : Heap), YP w h → (K w.params).In h → h.Ns mainGlobals mg → mg d.name = some (.ref fa) → LamX.LawAtS l w (K w.params) CX0 15 63 "script" mg fa h) :
    PySem.W.WalkO q loose XP YP l.row.toRowW d [] (fun f vs => PySem.call f vs) :=
  LamX.walk_ofTs (n := 63) (k := 15) (x := "script") (CX := fun _ => CX0) hn (by decide) hdf ⟨rfl, by decide, by decide⟩ hY F fun _ _ _ _ _ z => z
end Tw

open PySem PySem.W PyProof.Rows in
set_option maxRecDepth 100000 in
set_option maxHeartbeats 0 in
theorem PySem.Challenge.cw_heaprows_k17_whole_pushes_holds : PySem.Challenge.rw_heaprows_k17_whole_pushes.Holds := by
  w_on; o_law; k_head; (case hw => w_witness2)
  k_fill
  refine Tw.walk (l := PySem.Challenge.rw_heaprows_k17_whole_pushes) rfl rfl (fun w h Y => PySem.W.km_in_of Y) ?F
  case F =>
    intro w mg fa h Y KX G hmg
    have hT8 := PySem.W.km_tabs_of Y
    refine' Tw.all_mk KX G hmg ?aC ?aCS ?aCP ?aCU ?aCY ?a_is_integer ?l_is_integer ?c_is_integer ?k_is_integer ?a_is_integer_from ?l_is_integer_from ?c_is_integer_from ?k_is_integer_from ?a_is_key ?l_is_key ?c_is_key ?k_is_key ?a_check_arms ?l_check_arms ?c_check_arms ?k_check_arms ?a_check_many ?l_check_many ?c_check_many ?k_check_many ?a_check_place ?l_check_place ?c_check_place ?k_check_place ?a_check_key ?l_check_key ?c_check_key ?k_check_key ?a_row_of ?l_row_of ?c_row_of ?k_row_of ?a_check_different ?l_check_different ?c_check_different ?k_check_different ?a_t___init__ ?i_t___init__ ?l_t___init__ ?c_t___init__ ?k_t___init__ ?w_t___init__ ?a_t_of ?r_t_of ?n_t_of ?l_t_of ?c_t_of ?k_t_of ?w_t_of ?a_t___len__ ?i_t___len__ ?n_t___len__ ?l_t___len__ ?c_t___len__ ?k_t___len__ ?a_t___contains__ ?i_t___contains__ ?n_t___contains__ ?l_t___contains__ ?c_t___contains__ ?k_t___contains__ ?a_t___iter__ ?i_t___iter__ ?n_t___iter__ ?l_t___iter__ ?c_t___iter__ ?k_t___iter__ ?a_t___getitem__ ?i_t___getitem__ ?n_t___getitem__ ?l_t___getitem__ ?c_t___getitem__ ?k_t___getitem__ ?a_t_parent ?i_t_parent ?l_t_parent ?c_t_parent ?k_t_parent ?a_t_way_to ?i_t_way_to ?l_t_way_to ?c_t_way_to ?k_t_way_to ?a_t_depth ?i_t_depth ?l_t_depth ?c_t_depth ?k_t_depth ?a_is_heap ?l_is_heap ?c_is_heap ?k_is_heap ?w_is_heap ?a_faults ?l_faults ?c_faults ?k_faults ?w_faults ?a_heap_of ?l_heap_of ?c_heap_of ?k_heap_of ?a_different_heap_of ?l_different_heap_of ?c_different_heap_of ?k_different_heap_of ?a_z___init__ ?i_z___init__ ?l_z___init__ ?c_z___init__ ?k_z___init__ ?a_sift_up ?l_sift_up ?c_sift_up ?k_sift_up ?w_sift_up ?a_row_before ?l_row_before ?c_row_before ?k_row_before ?a_push ?l_push ?c_push ?k_push ?w_push ?a_check_filled ?l_check_filled ?c_check_filled ?k_check_filled ?a_p___init__ ?i_p___init__ ?l_p___init__ ?c_p___init__ ?k_p___init__ ?a_p___eq__ ?i_p___eq__ ?l_p___eq__ ?c_p___eq__ ?k_p___eq__ ?a_u___init__ ?i_u___init__ ?l_u___init__ ?c_u___init__ ?k_u___init__ ?a_u___eq__ ?i_u___eq__ ?l_u___eq__ ?c_u___eq__ ?k_u___eq__ ?a_u_shows ?i_u_shows ?l_u_shows ?c_u_shows ?k_u_shows ?w_u_shows ?a_y___init__ ?i_y___init__ ?l_y___init__ ?c_y___init__ ?k_y___init__ ?a_y___eq__ ?i_y___eq__ ?l_y___eq__ ?c_y___eq__ ?k_y___eq__ ?a_y_shows ?i_y_shows ?l_y_shows ?c_y_shows ?k_y_shows ?w_y_shows ?a_push_all ?l_push_all ?c_push_all ?k_push_all ?w_push_all ?a_most_pushed ?l_most_pushed ?c_most_pushed ?k_most_pushed ?w_most_pushed ?a_undo_push ?l_undo_push ?c_undo_push ?k_undo_push ?w_undo_push ?a_last_places ?l_last_places ?c_last_places ?k_last_places ?w_last_places ?a_last_way ?l_last_way ?c_last_way ?k_last_way ?a_heap_and_way_below ?l_heap_and_way_below ?c_heap_and_way_below ?k_heap_and_way_below ?a__law_number ?l__law_number ?c__law_number ?k__law_number ?a__law_take ?l__law_take ?c__law_take ?k__law_take ?a__law_pick ?l__law_pick ?c__law_pick ?k__law_pick ?a__law_parent ?l__law_parent ?c__law_parent ?k__law_parent ?a__law_children ?l__law_children ?c__law_children ?k__law_children ?a__law_way ?l__law_way ?c__law_way ?k__law_way ?a__law_arms ?l__law_arms ?c__law_arms ?k__law_arms ?a__law_keys ?l__law_keys ?c__law_keys ?k__law_keys ?a__law_order ?l__law_order ?c__law_order ?k__law_order ?a__law_is_heap ?l__law_is_heap ?c__law_is_heap ?k__law_is_heap ?a__law_lists ?l__law_lists ?c__law_lists ?k__law_lists ?a__law_heaps ?l__law_heaps ?c__law_heaps ?k__law_heaps ?a__law_heap ?l__law_heap ?c__law_heap ?k__law_heap ?a__law_up ?l__law_up ?c__law_up ?k__law_up ?a__law_pushed ?l__law_pushed ?c__law_pushed ?k__law_pushed ?a__law_unlike ?l__law_unlike ?c__law_unlike ?k__law_unlike ?a__law_ahead ?l__law_ahead ?c__law_ahead ?k__law_ahead ?a__law_undone_right ?l__law_undone_right ?c__law_undone_right ?k__law_undone_right ?a_law ?l_law ?c_law ?k_law ?q_GREATEST_KEY ?q_MOST_ARMS ?q_MOST_PLACES ?z_any ?z_bool ?z_enumerate ?z_int ?z_isinstance ?z_iter ?z_len ?z_list ?z_min ?z_range ?z_reversed ?z_sorted ?z_sum ?z_tuple ?z_zip ?pg ?hd ?po_ ?sa ?na_nMany ?na_nArms ?na_nPl ?mk ?kc ?rd ?ga ?pgS ?hdS ?po_S ?saS ?na_nRow ?na_nWay ?na_nLooks ?mkS ?kcS ?pgP ?hdP ?po_P ?saP ?na_pRow ?na_pChanges ?na_pLooks ?mkP ?kcP ?eneP ?eobP ?eniP ?entP ?kaP ?knP ?ktkP ?kmP ?kclP ?ktyP ?pgU ?hdU ?po_U ?saU ?na_uRow ?na_uKey ?mkU ?kcU ?eneU ?eobU ?eniU ?entU ?kaU ?knU ?ktkU ?kmU ?kclU ?ktyU ?ensU_Stuck ?nesU_Stuck ?pgY ?hdY ?po_Y ?saY ?na_yPlace ?na_yOther ?mkY ?kcY ?eneY ?eobY ?eniY ?entY ?kaY ?knY ?ktkY ?kmY ?kclY ?ktyY ?ensY_Undone ?nesY_Undone (hT8 _ (.head _)) (by kernel_rfl) (by kernel_rfl)
    (case aC => k_is)
    (case aCS => k_is)
    (case aCP => k_is)
    (case aCU => k_is)
    (case aCY => k_is)
    (case a_is_integer => k_is)
    (case l_is_integer => k_is)
    (case c_is_integer => k_is)
    (case k_is_integer => k_is)
    (case a_is_integer_from => k_is)
    (case l_is_integer_from => k_is)
    (case c_is_integer_from => k_is)
    (case k_is_integer_from => k_is)
    (case a_is_key => k_is)
    (case l_is_key => k_is)
    (case c_is_key => k_is)
    (case k_is_key => k_is)
    (case a_check_arms => k_is)
    (case l_check_arms => k_is)
    (case c_check_arms => k_is)
    (case k_check_arms => k_is)
    (case a_check_many => k_is)
    (case l_check_many => k_is)
    (case c_check_many => k_is)
    (case k_check_many => k_is)
    (case a_check_place => k_is)
    (case l_check_place => k_is)
    (case c_check_place => k_is)
    (case k_check_place => k_is)
    (case a_check_key => k_is)
    (case l_check_key => k_is)
    (case c_check_key => k_is)
    (case k_check_key => k_is)
    (case a_row_of => k_is)
    (case l_row_of => k_is)
    (case c_row_of => k_is)
    (case k_row_of => k_is)
    (case a_check_different => k_is)
    (case l_check_different => k_is)
    (case c_check_different => k_is)
    (case k_check_different => k_is)
    (case a_t___init__ => k_is)
    (case i_t___init__ => k_is)
    (case l_t___init__ => k_is)
    (case c_t___init__ => k_is)
    (case k_t___init__ => k_is)
    (case w_t___init__ => k_is)
    (case a_t_of => k_is)
    (case r_t_of => k_is)
    (case n_t_of => k_is)
    (case l_t_of => k_is)
    (case c_t_of => k_is)
    (case k_t_of => k_is)
    (case w_t_of => k_is)
    (case a_t___len__ => k_is)
    (case i_t___len__ => k_is)
    (case n_t___len__ => k_is)
    (case l_t___len__ => k_is)
    (case c_t___len__ => k_is)
    (case k_t___len__ => k_is)
    (case a_t___contains__ => k_is)
    (case i_t___contains__ => k_is)
    (case n_t___contains__ => k_is)
    (case l_t___contains__ => k_is)
    (case c_t___contains__ => k_is)
    (case k_t___contains__ => k_is)
    (case a_t___iter__ => k_is)
    (case i_t___iter__ => k_is)
    (case n_t___iter__ => k_is)
    (case l_t___iter__ => k_is)
    (case c_t___iter__ => k_is)
    (case k_t___iter__ => k_is)
    (case a_t___getitem__ => k_is)
    (case i_t___getitem__ => k_is)
    (case n_t___getitem__ => k_is)
    (case l_t___getitem__ => k_is)
    (case c_t___getitem__ => k_is)
    (case k_t___getitem__ => k_is)
    (case a_t_parent => k_is)
    (case i_t_parent => k_is)
    (case l_t_parent => k_is)
    (case c_t_parent => k_is)
    (case k_t_parent => k_is)
    (case a_t_way_to => k_is)
    (case i_t_way_to => k_is)
    (case l_t_way_to => k_is)
    (case c_t_way_to => k_is)
    (case k_t_way_to => k_is)
    (case a_t_depth => k_is)
    (case i_t_depth => k_is)
    (case l_t_depth => k_is)
    (case c_t_depth => k_is)
    (case k_t_depth => k_is)
    (case a_is_heap => k_is)
    (case l_is_heap => k_is)
    (case c_is_heap => k_is)
    (case k_is_heap => k_is)
    (case w_is_heap => k_is)
    (case a_faults => k_is)
    (case l_faults => k_is)
    (case c_faults => k_is)
    (case k_faults => k_is)
    (case w_faults => k_is)
    (case a_heap_of => k_is)
    (case l_heap_of => k_is)
    (case c_heap_of => k_is)
    (case k_heap_of => k_is)
    (case a_different_heap_of => k_is)
    (case l_different_heap_of => k_is)
    (case c_different_heap_of => k_is)
    (case k_different_heap_of => k_is)
    (case a_z___init__ => k_is)
    (case i_z___init__ => k_is)
    (case l_z___init__ => k_is)
    (case c_z___init__ => k_is)
    (case k_z___init__ => k_is)
    (case a_sift_up => k_is)
    (case l_sift_up => k_is)
    (case c_sift_up => k_is)
    (case k_sift_up => k_is)
    (case w_sift_up => k_is)
    (case a_row_before => k_is)
    (case l_row_before => k_is)
    (case c_row_before => k_is)
    (case k_row_before => k_is)
    (case a_push => k_is)
    (case l_push => k_is)
    (case c_push => k_is)
    (case k_push => k_is)
    (case w_push => k_is)
    (case a_check_filled => k_is)
    (case l_check_filled => k_is)
    (case c_check_filled => k_is)
    (case k_check_filled => k_is)
    (case a_p___init__ => k_is)
    (case i_p___init__ => k_is)
    (case l_p___init__ => k_is)
    (case c_p___init__ => k_is)
    (case k_p___init__ => k_is)
    (case a_p___eq__ => k_is)
    (case i_p___eq__ => k_is)
    (case l_p___eq__ => k_is)
    (case c_p___eq__ => k_is)
    (case k_p___eq__ => k_is)
    (case a_u___init__ => k_is)
    (case i_u___init__ => k_is)
    (case l_u___init__ => k_is)
    (case c_u___init__ => k_is)
    (case k_u___init__ => k_is)
    (case a_u___eq__ => k_is)
    (case i_u___eq__ => k_is)
    (case l_u___eq__ => k_is)
    (case c_u___eq__ => k_is)
    (case k_u___eq__ => k_is)
    (case a_u_shows => k_is)
    (case i_u_shows => k_is)
    (case l_u_shows => k_is)
    (case c_u_shows => k_is)
    (case k_u_shows => k_is)
    (case w_u_shows => k_is)
    (case a_y___init__ => k_is)
    (case i_y___init__ => k_is)
    (case l_y___init__ => k_is)
    (case c_y___init__ => k_is)
    (case k_y___init__ => k_is)
    (case a_y___eq__ => k_is)
    (case i_y___eq__ => k_is)
    (case l_y___eq__ => k_is)
    (case c_y___eq__ => k_is)
    (case k_y___eq__ => k_is)
    (case a_y_shows => k_is)
    (case i_y_shows => k_is)
    (case l_y_shows => k_is)
    (case c_y_shows => k_is)
    (case k_y_shows => k_is)
    (case w_y_shows => k_is)
    (case a_push_all => k_is)
    (case l_push_all => k_is)
    (case c_push_all => k_is)
    (case k_push_all => k_is)
    (case w_push_all => k_is)
    (case a_most_pushed => k_is)
    (case l_most_pushed => k_is)
    (case c_most_pushed => k_is)
    (case k_most_pushed => k_is)
    (case w_most_pushed => k_is)
    (case a_undo_push => k_is)
    (case l_undo_push => k_is)
    (case c_undo_push => k_is)
    (case k_undo_push => k_is)
    (case w_undo_push => k_is)
    (case a_last_places => k_is)
    (case l_last_places => k_is)
    (case c_last_places => k_is)
    (case k_last_places => k_is)
    (case w_last_places => k_is)
    (case a_last_way => k_is)
    (case l_last_way => k_is)
    (case c_last_way => k_is)
    (case k_last_way => k_is)
    (case a_heap_and_way_below => k_is)
    (case l_heap_and_way_below => k_is)
    (case c_heap_and_way_below => k_is)
    (case k_heap_and_way_below => k_is)
    (case a__law_number => k_is)
    (case l__law_number => k_is)
    (case c__law_number => k_is)
    (case k__law_number => k_is)
    (case a__law_take => k_is)
    (case l__law_take => k_is)
    (case c__law_take => k_is)
    (case k__law_take => k_is)
    (case a__law_pick => k_is)
    (case l__law_pick => k_is)
    (case c__law_pick => k_is)
    (case k__law_pick => k_is)
    (case a__law_parent => k_is)
    (case l__law_parent => k_is)
    (case c__law_parent => k_is)
    (case k__law_parent => k_is)
    (case a__law_children => k_is)
    (case l__law_children => k_is)
    (case c__law_children => k_is)
    (case k__law_children => k_is)
    (case a__law_way => k_is)
    (case l__law_way => k_is)
    (case c__law_way => k_is)
    (case k__law_way => k_is)
    (case a__law_arms => k_is)
    (case l__law_arms => k_is)
    (case c__law_arms => k_is)
    (case k__law_arms => k_is)
    (case a__law_keys => k_is)
    (case l__law_keys => k_is)
    (case c__law_keys => k_is)
    (case k__law_keys => k_is)
    (case a__law_order => k_is)
    (case l__law_order => k_is)
    (case c__law_order => k_is)
    (case k__law_order => k_is)
    (case a__law_is_heap => k_is)
    (case l__law_is_heap => k_is)
    (case c__law_is_heap => k_is)
    (case k__law_is_heap => k_is)
    (case a__law_lists => k_is)
    (case l__law_lists => k_is)
    (case c__law_lists => k_is)
    (case k__law_lists => k_is)
    (case a__law_heaps => k_is)
    (case l__law_heaps => k_is)
    (case c__law_heaps => k_is)
    (case k__law_heaps => k_is)
    (case a__law_heap => k_is)
    (case l__law_heap => k_is)
    (case c__law_heap => k_is)
    (case k__law_heap => k_is)
    (case a__law_up => k_is)
    (case l__law_up => k_is)
    (case c__law_up => k_is)
    (case k__law_up => k_is)
    (case a__law_pushed => k_is)
    (case l__law_pushed => k_is)
    (case c__law_pushed => k_is)
    (case k__law_pushed => k_is)
    (case a__law_unlike => k_is)
    (case l__law_unlike => k_is)
    (case c__law_unlike => k_is)
    (case k__law_unlike => k_is)
    (case a__law_ahead => k_is)
    (case l__law_ahead => k_is)
    (case c__law_ahead => k_is)
    (case k__law_ahead => k_is)
    (case a__law_undone_right => k_is)
    (case l__law_undone_right => k_is)
    (case c__law_undone_right => k_is)
    (case k__law_undone_right => k_is)
    (case a_law => k_is)
    (case l_law => k_is)
    (case c_law => k_is)
    (case k_law => k_is)
    (case q_GREATEST_KEY => k_is)
    (case q_MOST_ARMS => k_is)
    (case q_MOST_PLACES => k_is)
    (case z_any => k_is)
    (case z_bool => k_is)
    (case z_enumerate => k_is)
    (case z_int => k_is)
    (case z_isinstance => k_is)
    (case z_iter => k_is)
    (case z_len => k_is)
    (case z_list => k_is)
    (case z_min => k_is)
    (case z_range => k_is)
    (case z_reversed => k_is)
    (case z_sorted => k_is)
    (case z_sum => k_is)
    (case z_tuple => k_is)
    (case z_zip => k_is)
    (case pg => k_is)
    (case hd => k_is)
    (case po_ => k_is)
    (case sa => k_is)
    (case na_nMany => k_is)
    (case na_nArms => k_is)
    (case na_nPl => k_is)
    (case mk => k_is)
    (case kc => k_is)
    (case rd => k_is)
    (case ga => k_is)
    (case pgS => k_is)
    (case hdS => k_is)
    (case po_S => k_is)
    (case saS => k_is)
    (case na_nRow => k_is)
    (case na_nWay => k_is)
    (case na_nLooks => k_is)
    (case mkS => k_is)
    (case kcS => k_is)
    (case pgP => k_is)
    (case hdP => k_is)
    (case po_P => k_is)
    (case saP => k_is)
    (case na_pRow => k_is)
    (case na_pChanges => k_is)
    (case na_pLooks => k_is)
    (case mkP => k_is)
    (case kcP => k_is)
    (case eneP => k_is)
    (case eobP => k_is)
    (case eniP => k_is)
    (case entP => k_is)
    (case kaP => k_is)
    (case knP => k_is)
    (case ktkP => k_is)
    (case kmP => k_is)
    (case kclP => k_is)
    (case ktyP => k_is)
    (case pgU => k_is)
    (case hdU => k_is)
    (case po_U => k_is)
    (case saU => k_is)
    (case na_uRow => k_is)
    (case na_uKey => k_is)
    (case mkU => k_is)
    (case kcU => k_is)
    (case eneU => k_is)
    (case eobU => k_is)
    (case eniU => k_is)
    (case entU => k_is)
    (case kaU => k_is)
    (case knU => k_is)
    (case ktkU => k_is)
    (case kmU => k_is)
    (case kclU => k_is)
    (case ktyU => k_is)
    (case ensU_Stuck => k_is)
    (case nesU_Stuck => decide)
    (case pgY => k_is)
    (case hdY => k_is)
    (case po_Y => k_is)
    (case saY => k_is)
    (case na_yPlace => k_is)
    (case na_yOther => k_is)
    (case mkY => k_is)
    (case kcY => k_is)
    (case eneY => k_is)
    (case eobY => k_is)
    (case eniY => k_is)
    (case entY => k_is)
    (case kaY => k_is)
    (case knY => k_is)
    (case ktkY => k_is)
    (case kmY => k_is)
    (case kclY => k_is)
    (case ktyY => k_is)
    (case ensY_Undone => k_is)
    (case nesY_Undone => decide)
