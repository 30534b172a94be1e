import PyProof.Rows.All
import Wide.All
import OpenK.AllK
import Wide.FinOn
import HandS.ForMost
import HandS.ForExc
import HandS.IsInst
import HandS.MakeKwOnly
import HandS.ClsMeth
import HandS.Conv
import HandS.Codes
import HandS.Walk
import HandS.Style
import HandS.Flow
import HandS.Wide
import HandS.OwnEq
import HandS.OwnIter
import HandS.IterVal
import KE.KOwnIter
import PyProof.FactsAll.tuple_iterator_1
import HandS.Deep
import HandS.SortRule
import KE.GoesMore
import KE.GoesEnum
import KE.KLam
import KE.DataMinKey
import HandS.Base
import HandS.Call
import HandS.List
import HandS.Comp
import HandS.Lambda
import HandS.Nested
import HandS.Keys
import HandS.SortInts
import PyProof.NeKinds
import HandS.SetFor
import HandS.Strs
import HandS.TupSets
import KE.SortData
import HandS.Gcd
import KE.KMathGC
import HandS.Sort
import PyProof.AutoSeq1
import KE.KTurns
import HandS.TupLe
import KE.KSortTup
import HandS.Defaults
import HandS.Zip
import HandS.TryOnly
import HandS.TupAny
import KE.DataFind
import PyProof.SumWalkG
import KE.KNestM
import HandS.EndTab
import HandS.Rev
import HandS.DictComp
import KE.OsArith
import PySem.Challenge.RW_heaprows_k12_whole_dealt
set_option Elab.async false
set_option maxRecDepth 100000
set_option Elab.async false
set_option linter.all false
set_option maxRecDepth 100000
set_option maxHeartbeats 2000000
namespace Tw
open PySem PySem.Spec PyProof.Rows L2

/-! own rules: an instance with dunder methods -/
/-- a dunder method of the class at C, its def at f -/
structure Dn (K : PySem.W.Frag) (C : Addr) (m : Str) (f : Addr) : Prop where
  at_ : PySem.W.findIn K (.ref C) m = some (some (.ref f))
  fn : PySem.W.isFn K (.ref f) = true
  fi : PySem.W.fnIn K f = true


section
variable {X : Cx} {CX : CXT} {k n : Nat} {f C : Addr} {fd : FuncData} {ps : List Str} {sp : Sp} {E : XK} {o e : Expr} {pos : Pos} {ta tb : TE} {A1 : Around}
  {pins : List (Addr × Obj)} {σ : L2.St} {H : Hp} {s : Shared} {Q : VK}
theorem Sub.env0 (sb : Sub X n A1) (I : Inv X pins σ H s) : Env0 X.prog X.w X.K X.mg X.base A1 X.stack s H := by
  have q := I.env0
  exact ⟨by rw [sb.fr]; exact q.frames, q.mod, q.bs, q.bsz, q.funs, q.frf, q.hok, q.bare⟩
theorem run_sub {us : List Value} {vs : List V} (F : FnOk X.prog X.w X.K X.mg X.base CX k f fd ps sp) (sb : Sub X k A1) (hb : Binds X.K fd ps []) (hx : Passes CX X E) (I : Inv X pins σ H s) (r : Vals vs us) (h : sp vs H Q E) :
    wpAny (model X.prog X.w) A1 (call (.ref f) us) (EP X pins σ Q) X.xe s := by
  have hl : us.length = ps.length := by rw [← r.length]; exact F.len _ _ _ _ h
  have hb1 : BindsTo s fd ⟨us, []⟩ (ps.zip us) := by
    have z := hb s us I.kIn (by rw [List.append_nil]; exact hl)
    rw [List.append_nil] at z
    exact z
  refine wpAny_call (codeAny_mono (F.run A1 X.stack s H ⟨us, []⟩ us vs Q E sb.room (Sub.env0 sb I) hb1 r h) fun z s' hq => ?_)
  match z, hq with
  | .error e, hq => exact hx pins σ H s e s' I hq
  | .ok (.ret u), hq => exact I.after hq
  | .ok .next, hq => exact False.elim hq
  | .ok .brk, hq => exact False.elim hq
  | .ok .cont, hq => exact False.elim hq
theorem relR (a : Addr) : RelV (V.ref a) (Value.ref a) := rfl
theorem relB (b : Bool) : RelV (V.bl b) (Value.bool b) := rfl
theorem relI (i : Int) (t : Tok) : RelV (V.int i) (Value.int i t) := ⟨t, rfl⟩
/-- o[e] by the class's own def -/
def tGi (C : Addr) (sp : Sp) (E : XK) (ta tb : TE) : TE := fun σ H Q => ta σ H fun x H1 => tb σ H1 fun y H2 =>
  ∃ a dx fs, x = .ref a ∧ H2 a = some (.ins C dx fs) ∧ sp [.ref a, y] H2 Q E
theorem pe_gi (hd : Dn X.K C "__getitem__" f) (F : FnOk X.prog X.w X.K X.mg X.base CX k f fd ps sp) (hr : Room (k + 1) X.A) (hb : Binds X.K fd ps []) (hx : Passes CX X E) (ho : PE X o ta) (he : PE X e tb)
    (hs : ∀ v u, subscripted e true v u = runValue (.builtin "lifetime.subscript" ⟨[v, u], []⟩) := by intro _ _; with_unfolding_all rfl) :
    PE X (.Subscript o e pos) (tGi C sp E ta tb) := by
  refine ⟨fun pins s σ H Q I h => ?_⟩
  refine Subscript_ (binT ho he (R := fun x y H2 => ∃ a dx fs, x = .ref a ∧ H2 a = some (.ins C dx fs) ∧ sp [.ref a, y] H2 Q E) I h fun v u s2 x y H2 I2 rx ry ⟨a, dx, fs, ex, ha, q⟩ => ?_)
  subst ex
  obtain rfl : v = Value.ref a := rx
  obtain ⟨mA, O, rr, _, _, _⟩ := ins_get I2.hok ha
  obtain ⟨od, J, hl⟩ := O.look
  obtain ⟨m0, hF⟩ := I2.fr
  exact PySem.W.sub_K hF I2.ok.mod.kin J hd.at_ hd.fi hd.fn (run_sub F (Sub.in1 ⟨hr, rfl⟩) hb hx I2 (.cons (relR a) (.cons ry .nil)) q) (hs _ _)
/-- e in o, by the class's own def -/
def rIn (C : Addr) (sp : Sp) (E : XK) (neg : Bool) : R2 := fun x y H Q =>
  ∃ a dx fs, y = .ref a ∧ H a = some (.ins C dx fs) ∧ sp [.ref a, x] H (fun v H' => ∃ b, v = .bl b ∧ Q (.bl (if neg then !b else b)) H') E
theorem op_in_own (hd : Dn X.K C "__contains__" f) (F : FnOk X.prog X.w X.K X.mg X.base CX k f fd ps sp) (hr : Room k X.A) (hb : Binds X.K fd ps []) (hx : Passes CX X E) : OpR X (compareOp .In) (rIn C sp E false) := by
  intro pins s σ H x y v u Q I rx ry ⟨a, dx, fs, ey, ha, q⟩
  subst ey
  obtain rfl : u = Value.ref a := ry
  obtain ⟨mA, O, rr, _, _, _⟩ := ins_get I.hok ha
  obtain ⟨od, J, hl⟩ := O.look
  obtain ⟨m0, hF⟩ := I.fr
  refine PySem.W.in_K hF I.ok.mod.kin J hd.at_ hd.fn (thn (run_sub F ⟨hr, rfl⟩ hb hx I (.cons (relR a) (.cons rx .nil)) q) fun r s' ⟨z, H', I', rz, b, ez, q'⟩ => ?_)
  subst ez
  obtain rfl : r = Value.bool b := rz
  exact wpAny_truthy_bool ⟨_, _, I', relB b, q'⟩
/-- len(o) by the class's own def -/
def rLenO (C : Addr) (sp : Sp) (E : XK) : List V → Hp → VK → Prop := fun xs H Q =>
  ∃ a dx fs, xs = [.ref a] ∧ H a = some (.ins C dx fs) ∧ sp [.ref a] H (fun v H' => ∃ n : Nat, v = .int n ∧ n < 1000 ∧ Q (.int n) H') E
theorem call_len_own (hd : Dn X.K C "__len__" f) (F : FnOk X.prog X.w X.K X.mg X.base CX k f fd ps sp) (hr : Room (k + 1) X.A) (hb : Binds X.K fd ps []) (hx : Passes CX X E) : CallR X (.builtin "len") (rLenO C sp E) := by
  intro pins s σ H xs us Q I rv ⟨a, dx, fs, ex, ha, q⟩
  subst ex
  obtain ⟨u, rfl, ru⟩ := rv.one
  obtain rfl : u = Value.ref a := ru
  obtain ⟨mA, O, rr, _, _, _⟩ := ins_get I.hok ha
  obtain ⟨od, J, hl⟩ := O.look
  obtain ⟨m0, hF⟩ := I.fr
  refine PySem.W.len_K hF I.ok.mod.kin J hd.at_ hd.fn (thn (run_sub F (Sub.in1 ⟨hr, rfl⟩) hb hx I (.cons (relR a) .nil) q) fun r s' ⟨z, H', I', rz, n, ez, hn, q'⟩ => ?_)
  subst ez
  obtain ⟨t, rfl⟩ := rz
  exact ⟨⟨by omega, by omega⟩, _, _, I'.tok _, relI _ _, q'⟩
end

/-! for x in o, o an instance whose __iter__ says: return iter(self.F), F a tuple -/
def itTup (t : Addr) (i : Nat) : Obj := { cls := .type "tuple_iterator", data := .fields #[.ref t, .int (i : Nat) 0] }
def ItT (t it : Addr) (i : Nat) : HO := .ext fun h => h.get? it = some (itTup t i)
def rIterT (K : PySem.W.Frag) (n : Nat) : List V → Hp → VK → Prop := fun xs H Q => ∃ (t : Addr) (zs : List V), xs = [.ref t] ∧ SqT K H t zs ∧ ∀ it, H it = Option.none → n ≤ it → Q (.ref it) (upd H it (ItT t it 0))
section
variable {X : Cx}
theorem call_iterT : CallR X (.builtin "iter") (rIterT X.K X.s_0.heap.objs.size) := by
  intro pins s σ H xs us Q I r ⟨t, zs, e, hq, q⟩
  subst e
  obtain ⟨u, rfl, ru⟩ := r.one
  obtain rfl : u = Value.ref t := ru
  obtain ⟨its, rv, pl, hz⟩ := I.tuple hq
  refine Calls.call_function_entry (by decide +kernel) (by decide +kernel) PySem.W.kdk_entry_iter (PySem.W.kdk_args_iter _) ?_
  unfold Builtin.«iter»
  refine wpAny_bind (m := someArgs "iter" 1 2 _) (wpAny_of_eq (a := [Value.ref t]) (by first | rfl | kernel_rfl!) ?_)
  show wpAny _ _ (pyIter (.ref t) >>= _) _ _ _
  refine wpAny_bind (wpAny_pyIter_tuple (show s.heap.IsTuple t its.toArray from pl) ?_)
  have g : (s.heap.push (itTup t 0)).get? s.heap.objs.size = some (itTup t 0) := Heap.get?_push_size _ rfl
  have ok : ObjOk X.prog X.w (upd H s.heap.objs.size (ItT t s.heap.objs.size 0)) (s.heap.push (itTup t 0)) s.heap.objs.size (ItT t s.heap.objs.size 0) := ⟨g, ⟨_, g⟩, fun _ _ q k => k _ q⟩
  exact wpAny_pure ⟨_, rfl, .ref s.heap.objs.size, _, I.laid (t' := s.toks) (fun b u e => Heap.get?_push_of_some _ e) (Nat.le_refl _) ok, relR _, q _ (I.hok.fresh (Nat.le_refl _)) I.sz⟩
end

/-- a promise that may speak of how many objects there are when the def is called -/
def FnIt (P : Program) (w : World) (K : PySem.W.Frag) (mg : Str → Option Value) (base : Heap) (k : Nat) (f : Addr) (fd : FuncData) (ps : List Str) (sp : Nat → List V → Hp → VK → Prop) : Prop :=
  ∀ (A : Around) (outer : List Env) (s : Shared) (H : Hp) (us : List Value) (vs : List V) (Q : VK), Room k A → Env0 P w K mg base A outer s H → BindsTo s fd ⟨us, []⟩ (ps.zip us) → vs.length = ps.length → Vals vs us →
    sp s.heap.objs.size vs H Q → codeAny (model P w) A (.call (.ref f) ⟨us, []⟩) (CR CX0 outer P w H s Q E0) s
section
variable {P : Program} {w : World} {K : PySem.W.Frag} {mg : Str → Option Value} {base : Heap}
theorem fnIt_of {x qual : Str} {st : Stmt} {f : Addr} {fd : FuncData} {N ps : List Str} {k : Nat} {sp : Nat → List V → Hp → VK → Prop} (F : Fun K x qual st f fd) (S : FnScope N ps (defScope st))
    (hbody : ∀ (cdv : Value) (A : Around) (outer : List Env) (s : Shared) (H : Hp) (vs : List V) (Q : VK), Room k (A.deeper (envOfC qual (defScope st) s.heap.objs.size f cdv)) → sp s.heap.objs.size vs H Q →
      ∃ t, PSs (cxOf CX0 P w K mg base N qual (defScope st) f cdv A outer s H E0).nox (defBody st) t ∧ t { nx := fun _ H' => Q .non H', rt := Q } (start N vs) H) : FnIt P w K mg base (k + 1) f fd ps sp := by
  obtain ⟨oc, od, kV, doc, pm, an, cdv, ct, osl, rfl, lk, hcd⟩ := F.ex
  intro A outer s H us vs Q hr e0 hb hl r hsp
  have kin : K.In s.heap := e0.mod.kin.keeps fun b o e => (e0.bs b o e).1
  have lim : s.heap.NoLimit := e0.mod.nolimit.keeps fun b o e => (e0.bs b o e).1
  have kinds : ∀ y ∈ ps.zip us, (defScope st).names.lookup y.1 = some .local ∨ ((defScope st).names.lookup y.1 = some .cell ∧ ((cellsFrom (s.heap.objs.size + 1) (defScope st).names []).lookup y.1).isSome = true) := by
    intro y hy
    cases S.par y.1 (List.of_mem_zip (a := y.1) (b := y.2) hy).1 with
    | inl q => exact .inl q
    | inr q => exact .inr ⟨q, PySem.W.cellsFrom_some _ _ _ (.inl q)⟩
  apply codeAny_call_function hr.depth (kin _ _ lk) rfl S.co S.gen rfl (PySem.W.codeRec_of kin hcd) (hb _ _ _ _ ?_)
  apply wpAny_newFunctionEnv_cells S.kind kinds
  intro env he s1 x
  subst he
  refine ⟨lim.keeps x.toInCall.keep, codeAny_func ?_⟩
  obtain ⟨t, ht, hq⟩ := hbody cdv A outer s H vs Q (hr.deeper _) hsp
  have I := inv_start (CX := CX0) (P := P) (w := w) (E := E0) (cd := cdv) (qual := qual) (f := f) (outer := outer) S hr.hd e0 hl r x
  refine wpAny_mono (ht.nox.run [] s1 (start N vs) H _ I hq) (fun fl s' hs => ?_) fun e s' hs => hs
  match fl, hs with
  | .ret u, ⟨v, σ', H', J, rv, q⟩ => exact ⟨v, H', J.os, J.bare, J.base, J.hok, rv, q⟩
  | .next, ⟨σ', H', J, q⟩ => exact ⟨V.non, H', J.os, J.bare, J.base, J.hok, rfl, q⟩
  | .brk, ⟨_, _, _, q⟩ => exact False.elim q
  | .cont, ⟨_, _, _, q⟩ => exact False.elim q
end
/-- what such an __iter__ promises -/
def spIter (K : PySem.W.Frag) (C : Addr) (fld : Str) : Nat → List V → Hp → VK → Prop := fun n vs H Q => ∃ a dx fs t zs, vs = [.ref a] ∧ H a = some (.ins C dx fs) ∧ fs.lookup fld = some (.ref t) ∧ SqT K H t zs ∧
  ∀ it, H it = Option.none → n ≤ it → Q (.ref it) (upd H it (ItT t it 0))
/-- x in o, for a loop: o's own tuple is walked -/
def iOwn (K : PySem.W.Frag) (C : Addr) (fld : Str) (to : TE) : TI := fun σ H R => to σ H fun x H1 => ∃ a dx fs t zs, x = .ref a ∧ H1 a = some (.ins C dx fs) ∧ fs.lookup fld = some (.ref t) ∧ SqT K H1 t zs ∧ R (Itt K t) H1
section
variable {X : Cx} {k : Nat} {f C : Addr} {fd : FuncData} {fld : Str} {tg o : Expr} {to : TE} {pins : List (Addr × Obj)} {σ : L2.St} {H : Hp} {s : Shared} {A1 : Around}
theorem run_iter {a t dx : Addr} {fs : List (Str × V)} {zs : List V} (F : FnIt X.prog X.w X.K X.mg X.base k f fd ["self"] (spIter X.K C fld)) (sb : Sub X k A1) (hb : Binds X.K fd ["self"] []) (I : Inv X pins σ H s)
    (ha : H a = some (.ins C dx fs)) (hf : fs.lookup fld = some (.ref t)) (ht : SqT X.K H t zs) {E : Value → Shared → Prop} :
    wpAny (model X.prog X.w) A1 (call (.ref f) [.ref a]) (fun u s' => ∃ it, u = .ref it ∧ s.heap.objs.size ≤ it ∧ H it = Option.none ∧ Inv X pins σ (upd H it (ItT t it 0)) s') E s := by
  have hb1 : BindsTo s fd ⟨[.ref a], []⟩ ((["self"] : List Str).zip [Value.ref a]) := by
    have z := hb s [.ref a] I.kIn rfl
    exact z
  refine wpAny_call (codeAny_mono (F A1 X.stack s H [.ref a] [.ref a] (fun v H' => ∃ it, v = .ref it ∧ s.heap.objs.size ≤ it ∧ H it = Option.none ∧ H' = upd H it (ItT t it 0)) sb.room (Sub.env0 sb I) hb1 rfl (.cons (relR a) .nil)
    ⟨a, dx, fs, t, zs, rfl, ha, hf, ht, fun it h0 hn => ⟨it, rfl, hn, h0, rfl⟩⟩) fun z s' hq => ?_)
  match z, hq with
  | .error e, hq => exact hq.elim
  | .ok (.ret u), hq =>
    obtain ⟨v, H', I', rv, it, ev, hn, h0, eH⟩ := I.after hq
    subst ev
    rw [eH] at I'
    obtain rfl : u = Value.ref it := rv
    exact ⟨it, rfl, hn, h0, I'⟩
  | .ok .next, hq => exact False.elim hq
  | .ok .brk, hq => exact False.elim hq
  | .ok .cont, hq => exact False.elim hq
theorem pi_own (hd : Dn X.K C "__iter__" f) (F : FnIt X.prog X.w X.K X.mg X.base k f fd ["self"] (spIter X.K C fld)) (hr : Room k X.A) (hb : Binds X.K fd ["self"] []) (ho : PE X o to) : PI X tg o (iOwn X.K C fld to) := by
  refine ⟨fun pins s σ H R I h => ?_⟩
  refine thn (ho.run pins s σ H _ I h) fun u s1 ⟨x, H1, I1, rx, a, dx, fs, t, zs, ex, ha, hf, ht, q⟩ => ?_
  subst ex
  obtain rfl : u = Value.ref a := rx
  obtain ⟨mA, O, rr, _, _, _⟩ := ins_get I1.hok ha
  obtain ⟨od, J, hl⟩ := O.look
  obtain ⟨m0, hF⟩ := I1.fr
  refine PySem.W.owit_iter hF I1.ok.mod.kin J hd.at_ hd.fn (thn (run_iter F ⟨hr, rfl⟩ hb I1 ha hf ht) fun r s2 ⟨it, er, hn, h0, I2⟩ => ?_)
  subst er
  have e2 : upd H1 it (ItT t it 0) it = some (ItT t it 0) := upd_same
  have g : s2.heap.get? it = some (itTup t 0) := (I2.hok it _ e2).1
  have hT : s2.TypeIs (.ref it) "tuple_iterator" := ⟨_, g, rfl⟩
  have hfp := ItX.inv_fp I2 e2 (Nat.le_trans I1.sz hn)
  have I3 := ItX.inv_drop I2 e2
  rw [ItX.dropH_upd h0] at I3 hfp
  unfold PySem.W.OwitIt
  refine wpAny_specialOf (name := Str.ofString "__next__") hT PySem.F.slot_tuple_iterator_next.lookup ?_
  refine ⟨it, [it], _, _, H1, rfl, I3, turn_tuple t it, ⟨_, g, rfl, rfl⟩, fun b hb => ?_, q⟩
  rw [List.mem_singleton.mp hb]
  exact hfp
end
/-! C.m(e, .., k = v, ..), m a classmethod; cls(e, .., k = v, ..), cls a local name that holds the class -/
def tCMethK (C : Addr) (n m : Nat) (sp : Sp) (gV : List V → List V → List V) (E : XK) (ta : TE) (t tk : TA) : TE := fun σ H Q => ta σ H fun x H1 => x = .ref C ∧ t σ H1 fun vs H2 => tk σ H2 fun zs H3 => (.ref C :: vs).length = n ∧ zs.length = m ∧ sp (gV (.ref C :: vs) zs) H3 Q E
def tMakeLK (i : Nat) (C : Addr) (n m : Nat) (sp : Sp) (gV : List V → List V → List V) (E : XK) (t tk : TA) : TE := fun σ H Q => σ[i]? = some (some (.ref C)) ∧ tMakeK C n m sp gV E t tk σ H Q
section
variable {X : Cx} {CX : CXT} {k n i : Nat} {C p g f : Addr} {mc : Value} {sp : Sp} {E : XK} {o e : Expr} {es : List Expr} {kws : List Keyword} {m x : Str} {pos apos xpos : Pos} {ta : TE} {t tk : TA} {pl : Sem Bool} {fd : FuncData} {ps ks : List Str}
  {gv : List Value → List Value → List Value} {gV : List V → List V → List V}
theorem pe_cmethK (he : PE X o ta) (r : ClX.CRead X.K C mc) (c : ClX.CMet X.K C mc m p g) (F : FnOk X.prog X.w X.K X.mg X.base CX k g fd ps sp) (hr : Room k X.A) (hb : KBn X.K fd ps n ks gv gV) (hx : Passes CX X E) (ha : PA X (e :: es) t) (hkw : PK X kws tk)
    (hall : (backToKw pos (keywordEach kws X.env)).all (·.1.isSome) = true := by rfl) (hks : (backToKw pos (keywordEach kws X.env)).filterMap (·.1) = ks := by rfl)
    (hst : starEach (e :: es) X.env = (false, eval e X.env) :: starEach es X.env := by rfl) (hpl : ((backTo pos (starEach (e :: es) X.env)).any (·.1) || (backToKw pos (keywordEach kws X.env)).any (·.1.isNone)) = false := by rfl)
    (ht : eval (.Call (.Attribute o m apos) (e :: es) kws pos) X.env = (do
      let ov ← eval o X.env
      standAt apos.atName
      let (f, first) ← holding [ov] (getMethod ov m pl)
      callWith pos f first (backTo pos (starEach (e :: es) X.env)) (backToKw pos (keywordEach kws X.env))) := by rfl) :
    PE X (.Call (.Attribute o m apos) (e :: es) kws pos) (tCMethK C n ks.length sp gV E ta t tk) := by
  refine ⟨fun pins s σ H Q I h => ?_⟩
  refine PySem.W.methodCall_KW (pl := pl) (thn (he.run pins s σ H _ I h) fun u s1 ⟨x, H1, I1, rx, ex, q⟩ => ?_) ht
  subst ex
  obtain rfl : u = Value.ref C := rx
  refine ClX.getmethcm_ok I1 r c fun s2 I2 => ?_
  refine PySem.W.callWith_of (P := PySem.W.MethP X.K s1.heap.objs.size g (.ref C)) hpl (PySem.W.keeps_M c.fi) (evalArgs_kw2 hall (thn (ha.run pos _ s2 σ H1 _ I2 q) fun us s3 ⟨vs, H2, I3, rv, q2⟩ => ?_) hst)
  refine thn (hkw.run pos _ s3 σ H2 _ I3 q2) fun ws s4 ⟨zs, H3, I4, rz, l1, l2, q3⟩ => ⟨⟨ClX.pin_at I4, I4.kIn⟩, ?_⟩
  rw [hks]
  have r2 : Vals (V.ref C :: vs) (Value.ref C :: us) := .cons (relR C) rv
  have n1 : (Value.ref C :: us).length = n := r2.length.symm.trans l1
  have I5 := ClX.unpin I4
  refine wpAny_call (PySem.W.method_call (ClX.pin_at I4) (codeAny_mono (F.run X.A X.stack s4 H3 ⟨Value.ref C :: us, ks.zip ws⟩ _ _ Q E hr I5.env0 (hb.to _ (Value.ref C :: us) ws I5.kIn n1 (rz.length.symm.trans l2)) (hb.rel r2 rz) q3) fun z s' hq => ?_))
  match z, hq with
  | .error e, hq => exact hx pins σ H3 s4 e s' I5 hq
  | .ok (.ret u), hq => exact I5.after hq
  | .ok .next, hq => exact False.elim hq
  | .ok .brk, hq => exact False.elim hq
  | .ok .cont, hq => exact False.elim hq
theorem pe_makeLK (M : Mk X.K C f) (F : FnOk X.prog X.w X.K X.mg X.base CX k f fd ps sp) (hr : Room (k + 1) X.A) (hb : KBn X.K fd ps (n + 1) ks gv gV) (hx : Passes CX X E) (ha : PA X (e :: es) t) (hkw : PK X kws tk)
    (hN : X.N[i]? = some x) (hv : Vis X.env.scope x) (hd : (x == ("__debug__" : Str)) = false := by decide) (hcd : (x == ("__classdict__" : Str)) = false := by decide)
    (hall : (backToKw pos (keywordEach kws X.env)).all (·.1.isSome) = true := by rfl) (hks : (backToKw pos (keywordEach kws X.env)).filterMap (·.1) = ks := by rfl)
    (hst : starEach (e :: es) X.env = (false, eval e X.env) :: starEach es X.env := by rfl) (hpl : ((backTo pos (starEach (e :: es) X.env)).any (·.1) || (backToKw pos (keywordEach kws X.env)).any (·.1.isNone)) = false := by rfl) :
    PE X (.Call (.Name x xpos) (e :: es) kws pos) (tMakeLK i C n ks.length sp gV E t tk) := by
  refine ⟨fun pins s σ H Q I ⟨h0, h⟩ => ?_⟩
  refine wpAny_Call_Name_kw (thn ((pe_var (pos := xpos) (i := i) hN hv hd hcd).run pins s σ H (fun v H1 => v = .ref C ∧ H1 = H) I ⟨.ref C, h0, rfl, rfl⟩) fun u s1 ⟨v, H1, I1, r1, ev, eH⟩ => ?_)
  subst ev
  rw [eH] at I1
  obtain rfl : u = Value.ref C := r1
  refine PySem.W.callWith_KW (h₀ := X.base) I1.ok.mod.kin M.kp hall (thn (ha.run pos pins s1 σ H _ I1 h) fun us s2 ⟨vs, H2, I2, r, q⟩ => ?_) hpl hst
  refine thn (hkw.run pos pins s2 σ H2 _ I2 q) fun ws s3 ⟨zs, H3, I3, rz, l1, l2, q2⟩ => ⟨I3.kIn, ?_⟩
  rw [hks]
  exact run_makeK M F hr hb hx I3 r rz l1 l2 q2
end

/-! heaps that only grow -/
theorem Same.up {H : Hp} {p : Addr} {o : HO} (h : H p = Option.none) : Same H (upd H p o) := fun b u e => by
  rw [upd_ne (ne_of_none e h)]
  exact e
/-- a list under way at D, which was not there in H1 -/
structure Acc (H1 : Hp) (D : Addr) (acc : List V) (H : Hp) : Prop where
  s : Same H1 H
  n : H1 D = Option.none
  a : H D = some (.lst acc)
theorem Acc.start {H1 : Hp} {D : Addr} (n : H1 D = Option.none) : Acc H1 D [] (upd H1 D (.lst [])) := ⟨Same.up n, n, upd_same⟩
theorem Acc.same {H1 H H' : Hp} {D : Addr} {acc : List V} (h : Acc H1 D acc H) (s : Same H H') : Acc H1 D acc H' := ⟨h.s.trans s, h.n, s _ _ h.a⟩
theorem Acc.push {H1 H : Hp} {D : Addr} {acc zs : List V} (h : Acc H1 D acc H) : Acc H1 D zs (upd H D (.lst zs)) :=
  ⟨fun b o e => by rw [upd_ne (ne_of_none e h.n)]; exact h.s b o e, h.n, upd_same⟩
theorem Same.none' {H H' : Hp} (s : Same H H') {p : Addr} (h : H' p = Option.none) : H p = Option.none := s.free h
theorem Same.of_upd {H H' : Hp} {p : Addr} {o : HO} (h : H p = Option.none) (s : Same (upd H p o) H') : Same H H' := (Same.up h).trans s
/-- a list of ints as values -/
theorem ints_at {ns : List Int} {i : Nat} {x : V} (h : (ns.map V.int)[i]? = some x) : ∃ (hi : i < ns.length), x = .int ns[i] := by
  rw [List.getElem?_map] at h
  cases e : ns[i]? with
  | none => rw [e] at h; cases h
  | some u =>
    rw [e] at h
    obtain ⟨hi, rfl⟩ := List.getElem?_eq_some_iff.mp e
    exact ⟨hi, (Option.some.inj h).symm⟩

/-! comprehensions that pick -/
section
variable {α : Type} {H1 H : Hp} {D : Addr} {ks : List α} {f : α → Option V} {i : Nat} {c : α → V}
def PickI (H1 : Hp) (D : Addr) (ks : List α) (f : α → Option V) : Nat → Hp → Prop := fun i H => Acc H1 D ((ks.take i).filterMap f) H
theorem pick_start (n : H1 D = Option.none) : PickI H1 D ks f 0 (upd H1 D (.lst [])) := Acc.start n
theorem take_fm (hi : i < ks.length) : (ks.take (i + 1)).filterMap f = (ks.take i).filterMap f ++ (f ks[i]).toList := by
  rw [List.take_succ_eq_append_getElem hi, List.filterMap_append]
  cases h : f ks[i] <;> simp [h]
theorem pick_yes {H' : Hp} {y : V} (hi : i < ks.length) (hl : ks.length ≤ 1000) (e : f ks[i] = some y) (s : Same H H') (h : PickI H1 D ks f i H) :
    ∃ acc, H' D = some (.lst acc) ∧ acc.length < sizeLine ∧ PickI H1 D ks f (i + 1) (upd H' D (.lst (acc ++ [y]))) := by
  have h2 := Acc.same h s
  refine ⟨_, h2.a, small1000 ?_, ?_⟩
  · exact Nat.le_trans (Nat.le_trans (List.length_filterMap_le _ _) (List.length_take_le _ _)) (by omega)
  · unfold PickI
    rw [take_fm hi, e]
    exact h2.push
theorem pick_no {H' : Hp} (hi : i < ks.length) (e : f ks[i] = none) (s : Same H H') (h : PickI H1 D ks f i H) : PickI H1 D ks f (i + 1) H' := by
  unfold PickI
  rw [take_fm hi, e, Option.toList_none, List.append_nil]
  exact Acc.same h s
theorem pick_end {m : Nat} (hm : m = ks.length) (h : PickI H1 D ks f m H) : Acc H1 D (ks.filterMap f) H := by
  subst hm
  unfold PickI at h
  rw [List.take_length] at h
  exact h
theorem map_at {x : V} (h : (ks.map c)[i]? = some x) : ∃ hi : i < ks.length, x = c ks[i] := by
  rw [List.getElem?_map] at h
  cases e : ks[i]? with
  | none => rw [e] at h; cases h
  | some u =>
    rw [e] at h
    obtain ⟨hi, rfl⟩ := List.getElem?_eq_some_iff.mp e
    exact ⟨hi, (Option.some.inj h).symm⟩
end
end Tw

set_option Elab.async false
set_option linter.all false
set_option maxRecDepth 100000
set_option maxHeartbeats 2000000
namespace Tw
open PySem PySem.Spec PyProof.Rows L2
open PySem.W (InstAt looks_findIn looks_subIn ifBound_K cmp_K)
/-- a class with an own __eq__ and the usual != -/
structure EqC (K : PySem.W.Frag) (C f : Addr) : Prop where
  eq : PySem.W.findIn K (.ref C) "__eq__" = some (some (.ref f))
  fn : PySem.W.isFn K (.ref f) = true
  ne : PySem.W.findIn K (.ref C) "__ne__" = some (some (.builtin "object.__ne__"))
  ob : PySem.W.subIn K (.ref C) (.type "object") = some true
  ni : PySem.W.subIn K (.type "int") (.ref C) = some false
  nt : PySem.W.subIn K (.type "tuple") (.ref C) = some false

section
variable {prog : Program} {w : World} {A : Around} {E : Value → Shared → Prop} {s : Shared} {K : PySem.W.Frag} {x C L f : Addr} {h₀ : Heap} {m : Str → Option Value} {ox : Obj} {od : Option Obj} {b tb : Value}
theorem ne_entry {Q : PySem.Fin → Shared → Prop} (hu : A.units < cLine) (X : K.In s.heap) (I : InstAt s.heap x ox C od) (c : EqC K C f)
    (h : wpAny (model prog w) A (call (.ref f) [.ref x, b]) (fun v s' => ∃ r, v = .bool r ∧ Q (.done (.ret (.bool (!r)))) s') E s) :
    wpAny (model prog w) A (Builtin.«object.__ne__» ⟨[.ref x, b], []⟩) Q E s := by
  unfold Builtin.«object.__ne__»
  refine wpAny_bind (wpAny_of_eq (a := (Value.ref x, [b])) (by first | rfl | kernel_rfl!) ?_)
  refine wpAny_bind (wpAny_cRoomFor hu ?_)
  refine wpAny_bind (m := callSpecialIfBound? (.ref x) (Str.ofString "__eq__") [b]) (ifBound_K X I c.eq c.fn (wpAny_mono h (fun v s' hv => ?_) fun _ _ e => e))
  obtain ⟨r, e, q⟩ := hv
  subst e
  refine wpAny_bind (m := truthy (.bool r)) (wpAny_truthy_bool ?_)
  exact wpAny_pure q
theorem ne_call {Q : Value → Shared → Prop} (hu : A.in1.units < cLine) (X : K.In s.heap) (I : InstAt s.heap x ox C od) (c : EqC K C f)
    (h : wpAny (model prog w) A.in1 (call (.ref f) [.ref x, b]) (fun v s' => ∃ r, v = .bool r ∧ Q (.bool (!r)) s') E s) :
    wpAny (model prog w) A (call (.builtin "object.__ne__") [.ref x, b]) Q E s := by
  have t2 : PySem.W.Looks (model prog w) s.heap (isInstance (.ref x) (.type "object")) true := I.type.andThen (looks_subIn X c.ob)
  refine wpAny_call (codeAny_call_builtin F.cmp_object.ne.plain F.cmpEntry_ne (PySem.W.check_slot F.cmpKind_ne F.cmpSplit_ne t2 (F.cmpArgs_ne _ _) (ne_entry hu X I c (wpAny_mono h (fun v s' hv => ?_) fun _ _ e => e))))
  obtain ⟨r, e, q⟩ := hv
  exact ⟨r, e, q⟩
theorem ne_bound {Q : Option Value → Shared → Prop} (hu : A.in1.units < cLine) (X : K.In s.heap) (I : InstAt s.heap x ox C od) (c : EqC K C f)
    (h : wpAny (model prog w) A.in1 (call (.ref f) [.ref x, b]) (fun v s' => ∃ r, v = .bool r ∧ Q (some (.bool (!r))) s') E s) :
    wpAny (model prog w) A (callSpecialIfBound? (.ref x) "__ne__" [b]) Q E s := by
  simp only [callSpecialIfBound?, bindSpecialIfBound?]
  refine wpAny_holding (wpAny_bind (wpAny_bind (wpAny_bind (I.type.here ((looks_findIn X c.ne).here ?_)))))
  refine wpAny_bind (wpAny_askSetting (wpAny_ite ?_))
  have fin : wpAny (model prog w) A (call (.builtin "object.__ne__") ([.ref x] ++ [b]) >>= fun v => pure (some v)) Q E s :=
    wpAny_bind (ne_call hu X I c (wpAny_mono h (fun v s' ⟨r, e, q⟩ => ⟨r, e, wpAny_pure q⟩) fun _ _ e => e))
  have bd := F.cmp_object.ne.bind (.ref x)
  split
  · refine wpAny_bind ?_
    rw [bd]
    exact wpAny_pure (wpAny_pure (by exact fin))
  · refine wpAny_tryCatch (wpAny_bind ?_)
    rw [bd]
    exact wpAny_pure (wpAny_pure (by exact fin))
theorem ne_K {Q : Value → Shared → Prop} (hu : A.in1.units < cLine) (hu0 : A.units < cLine) (F : Fr h₀ L s.heap m) (X₀ : K.In h₀) (I : InstAt s.heap x ox C od) (hb : PySem.W.Looks (model prog w) s.heap (typeOf b) tb) (hn : PySem.W.notFirst K C tb = true) (c : EqC K C f)
    (h : wpAny (model prog w) A.in1 (call (.ref f) [.ref x, b]) (fun v s' => ∃ r, v = .bool r ∧ Q (.bool (!r)) s') E s) : wpAny (model prog w) A (richCompare .NotEq (.ref x) b) Q E s := by
  have X := X₀.keeps F.keep
  have one : wpAny (model prog w) A (tryCompare (.ref x) (cmpInfo .NotEq).2.1 b) (fun r s' => ∃ v, r = some v ∧ Q v s') E s := by
    unfold tryCompare
    refine wpAny_bind (ne_bound hu X I c (wpAny_mono h (fun v s' ⟨r, e, q⟩ => ⟨r, e, ?_⟩) fun _ _ e => e))
    exact wpAny_pure ⟨_, rfl, q⟩
  have two : ∀ r s', (∃ v, r = some v ∧ Q v s') → ∃ v, r = some v ∧ Q v s' := fun _ _ z => z
  unfold richCompare
  simp only [oneThing_ref]
  refine wpAny_holding (wpAny_bind (wpAny_cRoomFor hu0 ?_))
  refine wpAny_bind (I.type.here (wpAny_bind (hb.here ?_)))
  split
  · rename_i q
    have e : PySem.W.subIn K tb (.ref C) = some false := by
      rcases Bool.or_eq_true_iff.mp hn with e | e
      · rw [beq_iff_eq.mp e] at q; simp at q
      · exact beq_iff_eq.mp e
    refine wpAny_bind ((looks_subIn X e).here ?_)
    simp only [Bool.false_eq_true, if_false]
    refine wpAny_bind (wpAny_mono one (fun r s' ⟨v, ev, hq⟩ => ?_) fun _ _ e => e)
    subst ev
    exact wpAny_pure hq
  · refine wpAny_bind (wpAny_pure ?_)
    simp only [Bool.false_eq_true, if_false]
    refine wpAny_bind (wpAny_mono one (fun r s' ⟨v, ev, hq⟩ => ?_) fun _ _ e => e)
    subst ev
    exact wpAny_pure hq
end
/-! as rules -/
section
variable {X : Cx} {CX : CXT} {k : Nat} {f C : Addr} {fd : FuncData} {ps : List Str} {sp : Sp} {E : XK}
/-- the other operand: an instance of the same class, an int, a tuple -/
inductive Oth (H : Hp) (C : Addr) : V → Prop where
  | ins {a dx : Addr} {fs : List (Str × V)} (h : H a = some (.ins C dx fs)) : Oth H C (.ref a)
  | int (i : Int) : Oth H C (.int i)
  | tup {a : Addr} {xs : List V} (h : H a = some (.tup xs)) : Oth H C (.ref a)
def rEqO (C : Addr) (sp : Sp) (E : XK) (neg : Bool) : R2 := fun x y H Q =>
  ∃ a dx fs, x = .ref a ∧ H a = some (.ins C dx fs) ∧ Oth H C y ∧ sp [.ref a, y] H (fun v H' => ∃ r, v = .bl r ∧ Q (.bl (if neg then !r else r)) H') E
theorem oth_type {pins : List (Addr × Obj)} {σ : L2.St} {H : Hp} {s : Shared} {y : V} {u : Value} (I : Inv X pins σ H s) (ry : RelV y u) (c : EqC X.K C f) (o : Oth H C y) :
    ∃ tb, PySem.W.Looks (model X.prog X.w) s.heap (typeOf u) tb ∧ PySem.W.notFirst X.K C tb = true := by
  cases o with
  | @ins a dx fs h =>
    obtain rfl : u = Value.ref a := ry
    obtain ⟨mA, O, rr, _, _, _⟩ := ins_get I.hok h
    obtain ⟨od, J, hl⟩ := O.look
    exact ⟨_, J.type, by unfold PySem.W.notFirst; simp⟩
  | int i =>
    obtain ⟨t, rfl⟩ := ry
    exact ⟨.type "int", .now, by unfold PySem.W.notFirst; rw [c.ni]; simp⟩
  | @tup a xs h =>
    obtain rfl : u = Value.ref a := ry
    obtain ⟨_, _, _, ob, h1, h2, _⟩ := (show ObjOk X.prog X.w H s.heap a (.tup xs) from I.hok a _ h)
    exact ⟨.type "tuple", h2 ▸ (PySem.W.Looks.ld h1).andThen .now, by unfold PySem.W.notFirst; rw [c.nt]; simp⟩
theorem op_eq_own (c : EqC X.K C f) (F : FnOk X.prog X.w X.K X.mg X.base CX k f fd ps sp) (hr : Room k X.A) (hb : Binds X.K fd ps []) (hx : Passes CX X E) : OpR X (compareOp .Eq) (rEqO C sp E false) := by
  intro pins s σ H x y v u Q I rx ry ⟨a, dx, fs, ex, ha, o, q⟩
  subst ex
  obtain rfl : v = Value.ref a := rx
  obtain ⟨mA, O, rr, _, _, _⟩ := ins_get I.hok ha
  obtain ⟨od, J, hl⟩ := O.look
  obtain ⟨m0, hF⟩ := I.fr
  obtain ⟨tb, lk, nf⟩ := oth_type I ry c o
  show wpAny _ _ (richCompare .Eq (.ref a) u) _ _ _
  refine cmp_K hr.units0 hF I.ok.mod.kin J lk nf c.eq c.fn (thn (run_sub F ⟨hr, rfl⟩ hb hx I (.cons (relR a) (.cons ry .nil)) q) fun r s' ⟨z, H', I', rz, b, ez, q'⟩ => ?_)
  subst ez
  obtain rfl : r = Value.bool b := rz
  exact ⟨_, H', I', relB b, q'⟩
theorem op_ne_own (c : EqC X.K C f) (F : FnOk X.prog X.w X.K X.mg X.base CX k f fd ps sp) (hr : Room (k + 1) X.A) (hb : Binds X.K fd ps []) (hx : Passes CX X E) : OpR X (compareOp .NotEq) (rEqO C sp E true) := by
  intro pins s σ H x y v u Q I rx ry ⟨a, dx, fs, ex, ha, o, q⟩
  subst ex
  obtain rfl : v = Value.ref a := rx
  obtain ⟨mA, O, rr, _, _, _⟩ := ins_get I.hok ha
  obtain ⟨od, J, hl⟩ := O.look
  obtain ⟨m0, hF⟩ := I.fr
  obtain ⟨tb, lk, nf⟩ := oth_type I ry c o
  show wpAny _ _ (richCompare .NotEq (.ref a) u) _ _ _
  refine ne_K (Room.units0 hr.in1) hr.units0 hF I.ok.mod.kin J lk nf c (thn (run_sub F (Sub.in1 ⟨hr, rfl⟩) hb hx I (.cons (relR a) (.cons ry .nil)) q) fun r s' ⟨z, H', I', rz, b, ez, q'⟩ => ?_)
  subst ez
  exact ⟨b, rz, _, H', I', relB (!b), q'⟩
end
end Tw

set_option Elab.async false
set_option linter.all false
set_option maxRecDepth 100000
set_option maxHeartbeats 4000000
namespace Tw
open PySem PySem.Spec PyProof.Rows L2
/-! enumerate(t), t a tuple -/
def enO (s : Shared) : Obj := { cls := .type "enumerate", data := .fields #[.none, .bool false, .ref s.heap.objs.size, rawInt 0, .none, .none] }
theorem enum_newT (t : Addr) (items : Array Value) :
    Meets (Builtin.«enumerate.__new__» ⟨[.type "enumerate", .ref t], []⟩) (fun _ R s => s.heap.IsTuple t items ∧
      R (.ok (.ret (.ref (s.heap.push (itTup t 0)).objs.size))) { s with heap := (s.heap.push (itTup t 0)).push (enO s) }) :=
  .of_wp fun prog w A R s h => by
    obtain ⟨hp, g, d, tk, os⟩ := s
    obtain ⟨h1, h⟩ := h
    have hsub := sub_enumerate
    have q1 : ∀ {A' : Around} {E : Value → Shared → Prop} {Q : Value → Shared → Prop}, Q (.ref hp.objs.size) ⟨hp.push (itTup t 0), g, d, tk, os⟩ → wpAny (model prog w) A' (pyIter (.ref t)) Q E ⟨hp, g, d, tk, os⟩ :=
      fun q => wpAny_pyIter_tuple (s := ⟨hp, g, d, tk, os⟩) h1 q
    wp_walk using q1
    refine wpAny_stack_any fun st => wpAny_pure ?_
    split
    · rename_i c _ _ _ _ _
      cases (c == Value.type "enumerate")
      · wp_walk using q1
        exact ⟨_, rfl, h⟩
      · wp_walk using q1
        exact ⟨_, rfl, h⟩
    · wp_walk using q1
      exact ⟨_, rfl, h⟩
section
variable {prog : Program} {w : World} {A : Around} {E : Value → Shared → Prop} {s : Shared}
theorem call_enumT {t : Addr} {items : Array Value} {Q : Value → Shared → Prop} (hT : s.heap.IsTuple t items)
    (h : ∀ h', IsEnum h' (s.heap.objs.size + 1) s.heap.objs.size 0 .none → h'.IsTupleIter s.heap.objs.size t 0 → h'.objs.size = s.heap.objs.size + 2 →
      (∀ b o, s.heap.get? b = some o → h'.get? b = some o) → Q (.ref (s.heap.objs.size + 1)) { s with heap := h' }) :
    wpAny (model prog w) A (call (.type "enumerate") [.ref t]) Q E s := by
  refine callType_new F.called_enumerate (by decide) (F.typeCall_enumerate_1 _) (F.newCall_enumerate_1 _) (fun obj => F.args_object_init_2 obj _) F.entry_enumerate_new (enum_newT t items) ⟨hT, ?_⟩
  have hz : (s.heap.push (itTup t 0)).objs.size = s.heap.objs.size + 1 := Heap.size_push ..
  show _ ∧ _
  rw [hz]
  have he : IsEnum ((s.heap.push (itTup t 0)).push (enO s)) (s.heap.objs.size + 1) s.heap.objs.size 0 .none := by
    have q := Heap.get?_push_size (s.heap.push (itTup t 0)) (o := enO s) rfl
    rw [hz] at q
    exact q
  have hi : ((s.heap.push (itTup t 0)).push (enO s)).IsTupleIter s.heap.objs.size t 0 := ⟨_, Heap.get?_push_of_some _ (Heap.get?_push_size _ rfl), rfl, rfl⟩
  exact ⟨⟨_, he, rfl⟩, h _ he hi (by rw [Heap.size_push, hz]) fun b o x => Heap.get?_push_of_some _ (Heap.get?_push_of_some _ x)⟩
end
def IteT (K : PySem.W.Frag) (a : Addr) : It :=
  ⟨fun i H => ∃ (xs : List V) (x : V), SqT K H a xs ∧ xs[i]? = some x, fun i H v H' => ∃ T x, v = .ref T ∧ H T = Option.none ∧ H' = upd H T (.tup [.int (i : Nat), x]) ∧ ∀ xs, SqT K H a xs → xs[i]? = some x, fun i H => ∃ xs : List V, SqT K H a xs ∧ xs.length = i⟩
theorem turn_enumT {P : Program} {w : World} {K : PySem.W.Frag} {elts : List Expr} {kk : Nat} {tpos : Pos} (a e it : Addr) :
    Turn P w K (.Tuple elts kk tpos) (IteT K a) [e, it] e (fun i h => (∃ old, IsEnum h e it ((i : Nat) : Int) old) ∧ h.IsTupleIter it a i ∧ e ≠ it) where
  mem := by simp
  obj := fun i h st b hb => by
    obtain ⟨⟨old, he⟩, ⟨o, ho, hc, hd⟩, _⟩ := st
    rcases (show b = e ∨ b = it by simpa using hb) with rfl | rfl
    · exact ⟨_, he, fun v q => nomatch q⟩
    · exact ⟨o, ho, fun v q => by rw [hd] at q; cases q⟩
  keep := fun i h h' st k => let ⟨⟨old, he⟩, hi, hne⟩ := st; ⟨⟨old, k e (by simp) _ he⟩, hi.at fun o q => k it (by simp) o q, hne⟩
  item := by
    intro X hP hw hK hc i pins s σ H E I hf st hg
    subst hP hw hK
    obtain ⟨⟨old, he⟩, hit, hne⟩ := st
    obtain ⟨xs, x, hq, hx⟩ := hg
    obtain ⟨its, rv, p, hz⟩ := I.tuple hq
    have hil : i < xs.length := (List.getElem?_eq_some_iff.mp hx).1
    have hlen := rv.length
    have hel : e < s.heap.objs.size := Heap.lt_size he
    have hitl : it < s.heap.objs.size := by obtain ⟨_, q, _⟩ := hit; exact Heap.lt_size q
    have hae : e ≠ a := fun z => by
      obtain ⟨oo, h1, h2, _⟩ := p
      rw [← z, he] at h1
      cases h1
      injection h2 with q
      exact absurd q (by decide)
    have hia : it ≠ a := fun z => by
      obtain ⟨oo, h1, h2, _⟩ := p
      obtain ⟨o2, h3, h4, _⟩ := hit
      rw [← z, h3] at h1
      cases h1
      rw [h4] at h2
      injection h2 with q
      exact absurd q (by decide)
    have D := Draws.tuple (prog := X.prog) (w := X.w) (A := X.A.in1) (I.ok.hd hc) it a hia.symm its.toArray
    refine wpAny_pyNext_enum_itemD D he ⟨hit, p⟩ (by rw [List.size_toArray]; omega) hne (by simp [hne, hae]) fun u h' tk hu ho hst hT hsz hk => ?_
    obtain ⟨u2, hu2, ru⟩ := rv.get hx
    obtain rfl : u = u2 := by
      rw [List.getElem?_toArray] at hu
      exact Option.some.inj (hu.symm.trans hu2)
    refine ⟨_, rfl, wpAny_letOwnedTupleGo_enum (s := { s with heap := h', toks := tk + 1 }) ho fun h'' he' sb => ?_⟩
    have hT2 : h''.get? s.heap.objs.size = some { cls := .type "tuple", data := .seq #[.int i tk, u] } := (sb.2 _ (Nat.ne_of_gt hel)).trans hT
    have new : ObjOk X.prog X.w (upd H s.heap.objs.size (.tup [.int (i : Nat), x])) h'' s.heap.objs.size (.tup [.int (i : Nat), x]) :=
      ⟨by show 2 ≤ sizeLine; decide, [.int i tk, u], .cons ⟨_, rfl⟩ (.cons ru .nil), ⟨_, hT2, rfl, _, rfl⟩⟩
    have I1 : Inv X pins σ (upd H s.heap.objs.size (.tup [.int (i : Nat), x])) { s with heap := h'', toks := tk + 1 } :=
      I.turnedNew (ch := [e, it]) (fun b ob hb q => (sb.2 b (fun z => hb (by simp [z]))).trans (hk b ob (fun z => hb (by simp [z])) (fun z => hb (by simp [z])) q)) hf (Nat.le_refl _) new
    refine ⟨.ref s.heap.objs.size, _, I1, rfl, ⟨_, x, rfl, I.hok.fresh (Nat.le_refl _), rfl, fun ys hy => by rw [I.tuple_inj hy hq]; exact hx⟩, ⟨⟨u, ?_⟩, hst.1.at fun o q => (sb.2 it (Ne.symm hne)).trans q, hne⟩, fun b hb => ?_⟩
    · rw [show ((i + 1 : Nat) : Int) = (i : Int) + 1 by omega]
      exact he'
    · have hb' : b < s.heap.objs.size := by
        rcases (show b = e ∨ b = it by simpa using hb) with rfl | rfl
        · exact hel
        · exact hitl
      rw [upd_ne (Nat.ne_of_lt hb')]
      exact (hf b hb).1
  done := by
    intro X hP hw hK hc i pins s σ H E I hf st hg
    subst hP hw hK
    obtain ⟨⟨old, he⟩, hit, hne⟩ := st
    obtain ⟨xs, hq, hx⟩ := hg
    obtain ⟨its, rv, p, hz⟩ := I.tuple hq
    obtain ⟨f0, f1, f2, f3, f4, f5⟩ := hf it (by simp)
    have hlen := rv.length
    have hae : e ≠ a := fun z => by
      obtain ⟨oo, h1, h2, _⟩ := p
      rw [← z, he] at h1
      cases h1
      injection h2 with q
      exact absurd q (by decide)
    have hia : it ≠ a := fun z => by
      obtain ⟨oo, h1, h2, _⟩ := p
      obtain ⟨o2, h3, h4, _⟩ := hit
      rw [← z, h3] at h1
      cases h1
      rw [h4] at h2
      injection h2 with q
      exact absurd q (by decide)
    have D := Draws.tuple (prog := X.prog) (w := X.w) (A := X.A.in1) (I.ok.hd hc) it a hia.symm its.toArray
    have en : its.toArray.size = i := by rw [List.size_toArray]; omega
    refine wpAny_pyNext_enum_endD D he (by rw [en]; exact ⟨hit, p⟩) fun h' eb => ⟨rfl, I.turned (t' := s.toks) (fun b o hb q => eb b o hb q) f0 f1 f3 f4 f5⟩
  self := fun A i s Q E st h => let ⟨⟨_, he⟩, _⟩ := st; wpAny_pyIter_enum he h
theorem walk_enumT {K : PySem.W.Frag} {a : Addr} {xs : List V} : Walk (IteT K a) xs.length (fun H => SqT K H a xs) (YPair (fun i => some (.int (i : Nat))) (fun i => xs[i]?)) := by
  refine ⟨fun i _ hi q => ⟨xs, xs[i], q, by simp [hi]⟩, fun _ q => ⟨xs, q, rfl⟩, fun i H v H' _ q y => ?_⟩
  obtain ⟨T, x, h1, h2, h3, h4⟩ := y
  exact ⟨T, .int (i : Nat), x, h1, h2, h3, rfl, h4 xs q⟩
/-- enumerate of a list or of a tuple -/
def iEnS (K : PySem.W.Frag) (ta : TA) : TI := fun σ H R => ta σ H fun vs H1 => ∃ a xs, vs = [.ref a] ∧ ((SqL K H1 a xs ∧ R (Ite K a) H1) ∨ (SqT K H1 a xs ∧ R (IteT K a) H1))
theorem pi_enS {X : Cx} {e : Expr} {ta : TA} {p pos tpos : Pos} {elts : List Expr} {kk : Nat} (hg : Gl X "enumerate") (hm : X.mg "enumerate" = Option.none) (ha : PA X [e] ta) (hs : starEach [e] X.env = [(false, eval e X.env)] := by rfl) :
    PI X (.Tuple elts kk tpos) (.Call (.Name "enumerate" p) [e] [] pos) (iEnS X.K ta) := by
  refine ⟨fun pins s σ H R I h => ?_⟩
  refine Call_ (ld_blt I hg hm boot_enumerate (PyProof.Rows.callWith_type1 (thn (ha.run pos pins s σ H _ I h) fun us s1 ⟨vs, H1, I1, r1, a, xs, ex, q1⟩ => ?_) hs rfl))
  subst ex
  obtain ⟨u, rfl, ru⟩ := r1.one
  obtain rfl : u = Value.ref a := ru
  have fr : ∀ b ∈ [s1.heap.objs.size + 1, s1.heap.objs.size], FpOk X pins H1 b := fun b hb => by
    have hle : s1.heap.objs.size ≤ b := by
      rcases (show b = s1.heap.objs.size + 1 ∨ b = s1.heap.objs.size by simpa using hb) with z | z <;> omega
    exact I1.fpOk hle (I1.hok.fresh hle)
  rcases q1 with ⟨hq, q⟩ | ⟨hq, q⟩
  · obtain ⟨its, rv, p', hz⟩ := I1.list hq
    exact call_enumerate_list p'.isList fun h' he hit hsz hk => wpAny_pyIter_enum he ⟨_, _, _, _, H1, rfl, I1.kept (t' := s1.toks) hk, turn_enum a (s1.heap.objs.size + 1) s1.heap.objs.size, ⟨⟨.none, he⟩, hit, Nat.succ_ne_self _⟩, fr, q⟩
  · obtain ⟨its, rv, p', hz⟩ := I1.tuple hq
    exact call_enumT p' fun h' he hit hsz hk => wpAny_pyIter_enum he ⟨_, _, _, _, H1, rfl, I1.kept (t' := s1.toks) hk, turn_enumT a (s1.heap.objs.size + 1) s1.heap.objs.size, ⟨⟨.none, he⟩, hit, Nat.succ_ne_self _⟩, fr, q⟩
end Tw

set_option Elab.async false
set_option linter.all false
set_option maxRecDepth 100000
set_option maxHeartbeats 2000000
/-! own rules: min(xs, key=lambda x: ys[x]), ys a name of the def -/
namespace Cl
open PySem PySem.Spec PyProof.Rows L2 LamX
section
variable {prog : Program} {w : World} {A : Around} {E : Value → Shared → Prop} {s : Shared}
/-- what the lambda's scope must say -/
structure LSc (scope : Scope) (x y : Str) : Prop where
  kind : scope.kind = .function
  co : scope.isCoroutine = false
  gen : scope.isGenerator = false
  nocell : ∀ z ∈ scope.names, z.2 ≠ .cell
  px : scope.names.lookup x = some .local
  fy : scope.names.lookup y = some .free
/-- lambda x: y[x], called with an int -/
theorem lam_ix {f l c' ck : Addr} {q x y : Str} {params : Arguments} {p1 p2 p3 : Pos} {scope : Scope} {cl : List (Str × Addr)} {pm ctv u : Value} {vs : List Value} {i : Int} {t : Tok} {Q : Value → Shared → Prop}
    (S : LSc scope x y) (hd : A.depth < recursionLimit) (hf : s.heap.get? f = some (PySem.W.kla_obj "<lambda>" q params (.Subscript (.Name y p1) (.Name x p2) p3) scope cl pm c' ctv))
    (hbind : ∀ v : Value, bindArgs (PySem.W.kla_fn "<lambda>" q params (.Subscript (.Name y p1) (.Name x p2) p3) scope cl pm (.ref c') ctv) ⟨[v], []⟩ = pure [(x, v)])
    (hcode : ∃ (oc : Obj) (us : Array Value) (tk : Tok), s.heap.get? c' = some oc ∧ oc.data = .fields us ∧ us[1]? = some (.str q tk)) (hlim : s.heap.NoLimit)
    (hck : cl.lookup y = some ck) (hcell : s.heap.IsCell ck (some (.ref l))) (hl : s.heap.IsList l vs.toArray) (h0 : 0 ≤ i) (h1 : i < 2 ^ 63) (hi : vs[i.toNat]? = some u)
    (hdx : (x == ("__debug__" : Str)) = false) (hdy : (y == ("__debug__" : Str)) = false) (hcy : (y == ("__classdict__" : Str)) = false)
    (h : ∀ h' tk, s.toks ≤ tk → (∀ b o, s.heap.get? b = some o → h'.get? b = some o) → Q u { s with heap := h', toks := tk }) : wpAny (model prog w) A (call (.ref f) [.int i t]) Q E s := by
  obtain ⟨oc, us, tq, hoc, hdc, hvc⟩ := hcode
  refine wpAny_call (PySem.W.kla_callFunE hd hf rfl S.co S.gen rfl ⟨c', oc, us, tq, rfl, hoc, hdc, hvc⟩ ?_)
  rw [hbind]
  refine wpAny_pure (wpAny_newFunctionEnv S.nocell (fun z hz => by rw [List.mem_singleton.mp hz]; exact S.px) (fun h₁ hns hsb => ⟨hlim.fresh _ hsb, ?_⟩) S.kind)
  have kp : ∀ b o, s.heap.get? b = some o → h₁.get? b = some o := fun b o e => hsb.extBut b o (Nat.ne_of_lt (Heap.lt_size e)) (Heap.get?_push_of_some _ e)
  refine PySem.W.kla_codeExpr ?_
  refine wpAny_Subscript_Name list_getitem_lookup ?_
  refine wpAny_Name (wpAny_loadName_free S.kind S.fy hck (hcell.keeps kp) ?_ hcy) hdy
  refine wpAny_Name (wpAny_loadName_local S.kind S.px hns (v := .int i t) ?_ ?_) hdx
  · simp [List.lookup]
  · have hl' : h₁.IsList l vs.toArray := hl.at fun o e => kp _ _ e
    refine ⟨hl'.typeIs, wpAny_getItem_list hl' h0 h1 (by simpa using hi) ?_⟩
    exact h h₁ _ (by show s.toks ≤ s.toks + _; omega) kp
/-- what a lambda x: y[x] is, and what it reads -/
structure LamAt (h : Heap) (f : Addr) (x y : Str) (q : Str) (params : Arguments) (p1 p2 p3 : Pos) (scope : Scope) (cl : List (Str × Addr)) (pm ctv : Value) (c' ck l : Addr) (us : List Value) : Prop where
  fn : h.get? f = some (PySem.W.kla_obj "<lambda>" q params (.Subscript (.Name y p1) (.Name x p2) p3) scope cl pm c' ctv)
  code : ∃ (oc : Obj) (us : Array Value) (tk : Tok), h.get? c' = some oc ∧ oc.data = .fields us ∧ us[1]? = some (.str q tk)
  lim : h.NoLimit
  hck : cl.lookup y = some ck
  cell : h.IsCell ck (some (.ref l))
  lst : h.IsList l us.toArray
theorem LamAt.keeps {h h' : Heap} {f : Addr} {x y : Str} {q : Str} {params : Arguments} {p1 p2 p3 : Pos} {scope : Scope} {cl : List (Str × Addr)} {pm ctv : Value} {c' ck l : Addr} {us : List Value}
    (L : LamAt h f x y q params p1 p2 p3 scope cl pm ctv c' ck l us) (k : ∀ b o, h.get? b = some o → h'.get? b = some o) : LamAt h' f x y q params p1 p2 p3 scope cl pm ctv c' ck l us :=
  ⟨k _ _ L.fn, let ⟨oc, us, tk, a, b, c⟩ := L.code; ⟨oc, us, tk, k _ _ a, b, c⟩, L.lim.keeps k, L.hck, L.cell.keeps k, L.lst.at fun o e => k _ _ e⟩
theorem min_lam {f a l c' ck : Addr} {q x y : Str} {params : Arguments} {p1 p2 p3 : Pos} {scope : Scope} {cl : List (Str × Addr)} {pm ctv : Value} {cs us : List Value} {ns : Nat → Int} {kf : Nat → Int} {Q : Value → Shared → Prop}
    (hh : A.handled = none) (S : LSc scope x y) (hd : A.depth < recursionLimit) (L : LamAt s.heap f x y q params p1 p2 p3 scope cl pm ctv c' ck l us)
    (hbind : ∀ v : Value, bindArgs (PySem.W.kla_fn "<lambda>" q params (.Subscript (.Name y p1) (.Name x p2) p3) scope cl pm (.ref c') ctv) ⟨[v], []⟩ = pure [(x, v)])
    (hdx : (x == ("__debug__" : Str)) = false) (hdy : (y == ("__debug__" : Str)) = false) (hcy : (y == ("__classdict__" : Str)) = false)
    (ht : s.heap.IsTuple a cs.toArray) (hc : ∀ i, i < cs.length → ∃ t, cs[i]? = some (.int (ns i) t)) (hne : 0 < cs.length)
    (hk : ∀ i, i < cs.length → 0 ≤ ns i ∧ ns i < 2 ^ 63 ∧ ∃ t, us[(ns i).toNat]? = some (.int (kf i) t))
    (h : ∀ v h' tk, cs[argBest (fun i j => decide (kf i < kf j)) (cs.length - 1)]? = some v → (∀ b o, s.heap.get? b = some o → h'.get? b = some o) → Q v { s with heap := h', toks := tk }) :
    wpAny (model prog w) A (call (.builtin "min") [.ref a] [(Str.ofString "key", .ref f)]) Q E s := by
  have hd1 : A.in1.depth < recursionLimit := hd
  refine call_min_walkK (PySem.W.iter_tupleW (A := A.in1) hh ht fun s₂ e2 W st hfp hfr kp2 => ?_)
  have sz2 : s.heap.objs.size < s₂.heap.objs.size := hfp _ List.mem_cons_self
  have old : ∀ {s' : Shared}, Moved [s₂.heap.objs.size, s.heap.objs.size] (fun a b => b = a) s₂ s' → ∀ b o, s.heap.get? b = some o → s'.heap.get? b = some o := fun {s'} m b o e => by
    have lt := Heap.lt_size e
    refine m.heap b o (fun hm => ?_) (kp2 b o e)
    rcases List.mem_cons.mp hm with z | hm
    · rw [z] at lt
      exact Nat.lt_irrefl _ (Nat.lt_trans lt sz2)
    · rw [List.mem_singleton.mp hm] at lt
      exact Nat.lt_irrefl _ lt
  have szc : cs.toArray.size = cs.length := by simp
  refine ⟨s.heap.objs.size, [s.heap.objs.size, a], [s.heap.objs.size], (fun a b => b = a), cs.toArray.size, _, _, fun s' => Moved [s₂.heap.objs.size, s.heap.objs.size] (fun a b => b = a) s₂ s', fun i k _ => ∃ t, k = .int (kf i) t, fun i j => decide (kf i < kf j), rfl, W, st, hfp, by rw [szc]; exact hne, ⟨?_, ?_, ?_, ?_⟩, Moved.refl fun _ => rfl, ?_⟩
  · exact fun s1 s' J m => J.trans (fun _ _ _ h1 h2 => h2.trans h1) m
  · exact fun i k s1 s' v _ => v
  · intro i v s1 o Q' E' hi hP J stI hS cont
    rw [szc] at hi
    obtain ⟨t, ec⟩ := hc i hi
    have ev : v = .int (ns i) t := by
      have hP' : cs[i]? = some v := by simpa using hP
      rw [ec] at hP'
      exact (Option.some.inj hP').symm
    subst ev
    obtain ⟨h0, h1, tk, eu⟩ := hk i hi
    have L1 := L.keeps (old J)
    refine lam_ix S hd1 L1.fn hbind L1.code L1.lim L1.hck L1.cell L1.lst h0 h1 eu hdx hdy hcy fun h' tk' hle kp => ?_
    exact cont _ _ (J.then_heap hle fun b o _ e => kp b o e) (W.frame _ s1 h' tk' stI hle fun b _ o e => kp b o e) (kp _ _ hS) ⟨_, rfl⟩ fun j k' z => z
  · intro i j ki kj s1 Q' E' J vi vj q
    exact CmpOf.ints_lt (prog := prog) (w := w) (A := A.in1) (P := fun i v => ∃ t, v = .int (kf i) t) kf (fun i v h => h) i j ki kj s1 Q' E' vi vj q
  · intro v s' hP J
    rw [szc] at hP
    have hP' : cs[argBest (fun i j => decide (kf i < kf j)) (cs.length - 1)]? = some v := by simpa using hP
    have e : s' = { s with heap := s'.heap, toks := s'.toks } := by
      obtain ⟨hp, g, d, tk, os⟩ := s'
      subst e2
      have h1 : g = s.gens := J.gens
      have h2 : d = s.drawn := J.drawn
      have h3 : os = s.os := J.os
      subst h1 h2 h3
      rfl
    rw [e]
    exact h v s'.heap s'.toks hP' (old J)
end
/-- the first of the least -/
def FirstLeast (kf : Nat → Int) (n j : Nat) : Prop := j < n ∧ (∀ i, i < n → kf j ≤ kf i) ∧ ∀ i, i < j → kf j < kf i
theorem best_is (kf : Nat → Int) : ∀ n, FirstLeast kf (n + 1) (argBest (fun i j => decide (kf i < kf j)) n)
  | 0 => ⟨Nat.zero_lt_one, fun i h => by rw [Nat.lt_one_iff.mp h]; exact Int.le_refl _, fun i h => nomatch h⟩
  | n + 1 => by
    obtain ⟨a, b, c⟩ := best_is kf n
    show FirstLeast kf (n + 2) (if decide (kf (n + 1) < kf (argBest (fun i j => decide (kf i < kf j)) n)) = true then n + 1 else argBest (fun i j => decide (kf i < kf j)) n)
    by_cases h : kf (n + 1) < kf (argBest (fun i j => decide (kf i < kf j)) n)
    · rw [if_pos (decide_eq_true h)]
      refine ⟨by omega, fun i hi => ?_, fun i hi => ?_⟩
      · by_cases e : i = n + 1
        · rw [e]
          exact Int.le_refl _
        · have := b i (by omega)
          omega
      · have := b i (by omega)
        omega
    · rw [if_neg (fun z => h (of_decide_eq_true z))]
      refine ⟨by omega, fun i hi => ?_, c⟩
      by_cases e : i = n + 1
      · rw [e]
        omega
      · exact b i (by omega)
theorem first_one {kf : Nat → Int} {n i j : Nat} (a : FirstLeast kf n i) (b : FirstLeast kf n j) : i = j := by
  rcases Nat.lt_trichotomy i j with h | h | h
  · have h1 := b.2.2 i h
    have h2 := a.2.1 j b.1
    omega
  · exact h
  · have h1 := a.2.2 j h
    have h2 := b.2.1 i a.1
    omega
/-- the item of ns whose key in ks is the least, the first such one -/
def LeastAt (ks ns : List Int) (m : Int) : Prop := ∃ j, FirstLeast (fun i => ks.getD (ns.getD i 0).toNat 0) ns.length j ∧ m = ns.getD j 0
theorem _root_.LamX.ExtN.rd {H H' : Hp} (e : ExtN H H') {a : Addr} {u : HO} (n : ∀ ps, u ≠ .tbl ps) (h : Rd H a u) : Rd H' a u := by
  rcases h with h | ⟨o, h⟩
  · exact .inl (e _ _ h n)
  · exact .inr ⟨o, e _ _ h fun ps z => nomatch z⟩
theorem _root_.LamX.ExtN.sqL {K : PySem.W.Frag} {H H' : Hp} (e : ExtN H H') {a : Addr} {xs : List V} (h : SqL K H a xs) : SqL K H' a xs := h.elim (fun h => .inl (e.rd (fun ps z => nomatch z) h)) .inr
theorem _root_.LamX.ExtN.sqT {K : PySem.W.Frag} {H H' : Hp} (e : ExtN H H') {a : Addr} {xs : List V} (h : SqT K H a xs) : SqT K H' a xs := h.elim (fun h => .inl (e.rd (fun ps z => nomatch z) h)) .inr
section
variable {X : Cx}
def tMinLam (K : PySem.W.Frag) (T : List (Addr × Str)) (j : Nat) (te : TE) : TE := fun σ H Q => te σ H fun v H1 => ∃ (a l : Addr) (ns ks : List Int), v = .ref a ∧ SqT K H1 a (ns.map V.int) ∧ σ[j]? = some (some (.ref l)) ∧ SqL K H1 l (ks.map V.int) ∧ 0 < ns.length ∧ (∀ n ∈ ns, 0 ≤ n ∧ n < ks.length) ∧
  Tabs T H1 ∧ ∀ (m : Int) (H2 : Hp), ExtN H1 H2 → Tabs T H2 → LeastAt ks ns m → Q (.int m) H2
/-- min(e, key=lambda x: y[x]), y a name of the def that it shares with the lambda -/
theorem pe_minlam {T : List (Addr × Str)} {c P : Addr} {p p1 p2 p3 lpos kpos pos : Pos} {e : Expr} {te : TE} {x y : Str} {j : Nat} {params : Arguments} {scope : Scope}
    (hg : Gl X "min") (hm : X.mg "min" = none) (he : PE X e te) (hd : X.A.depth < recursionLimit) (hh : X.A.handled = none) (TB : TabB X.base X.mg c P) (hcode : X.env.code = .ref c) (hmT : (P, X.env.qual ++ "<lambda>") ∈ T)
    (hu : ∀ q ∈ T, q.1 = P → q.2 = X.env.qual ++ "<lambda>") (S : LSc scope x y) (hfy : X.env.scope.names.lookup y = some .cell) (hfr : ∀ z ∈ scope.names, z.2 = .free → z.1 = y) (hN : X.N[j]? = some y) (hdef : defaultsOf params X.env = ([], []))
    (hbind : ∀ (q : Str) (cl : List (Str × Addr)) (pm cv ctv v : Value), bindArgs (PySem.W.kla_fn "<lambda>" q params (.Subscript (.Name y p1) (.Name x p2) p3) scope cl pm cv ctv) ⟨[v], []⟩ = pure [(x, v)])
    (hs : starEach [e] X.env = (false, eval e X.env) :: starEach [] X.env := by rfl)
    (hdx : (x == ("__debug__" : Str)) = false := by decide) (hdy : (y == ("__debug__" : Str)) = false := by decide) (hcy : (y == ("__classdict__" : Str)) = false := by decide) :
    PE X (.Call (.Name "min" p) [e] [⟨some "key", .Lambda params (.Subscript (.Name y p1) (.Name x p2) p3) scope lpos, kpos⟩] pos) (tMinLam X.K T j te) := by
  refine ⟨fun pins s σ H Q I h => ?_⟩
  have hfree : ∀ z ∈ scope.names, z.2 = .free → ∃ c, X.env.cells.lookup z.1 = some c := fun z hz e => I.ok.has _ (.inl (by rw [hfr z hz e]; exact hfy))
  refine wpAny_Call_Name_kw (ld_blt I hg hm (u := .builtin "min") (by decide +kernel) ?_)
  refine PyProof.Rows.callWith_kw ?_ (by rw [hs]; rfl) (by rw [hs]; rfl) (by rfl) (by rfl)
  rw [hs]
  show wpAny _ _ (spliced ((false, eval e X.env) :: backTo pos (starEach [] X.env))) _ _ s
  refine Calls.spliced_cons (thn (he.run pins s σ H _ I h) fun u s1 ⟨v, H1, I1, r1, a, l, ns, ks, ev, ht, hσ, hl, hne, hin, hT, q⟩ => Calls.spliced_nil ?_)
  subst ev
  obtain rfl : u = Value.ref a := r1
  show wpAny _ _ (evalAll ((do let v ← eval (.Lambda params (.Subscript (.Name y p1) (.Name x p2) p3) scope lpos) X.env; standAt pos; pure v) :: [])) _ _ s1
  refine wpAny_evalAll_cons (wpAny_bind (lam_make2 I1 TB hcode hmT hu hT hdef hfree fun f c' pm ctv H2 s2 I2 eN T2 hf hfn hff hco => wpAny_bind (wpAny_standAt (wpAny_pure (wpAny_evalAll_nil ?_)))))
  show wpAny _ _ (call (.builtin "min") [.ref a] [(Str.ofString "key", .ref f)]) _ _ s2
  obtain ⟨cs, rc, tc, _⟩ := I2.tuple (eN.sqT ht)
  obtain ⟨us, ru, pl, hz2⟩ := I2.list (eN.sqL hl)
  obtain ⟨m, _, look⟩ := I2.loc
  obtain ⟨u0, r0, lk⟩ := look j y _ hN hσ (.inr (.inl hfy))
  obtain rfl : u0 = Value.ref l := r0
  have cellAt : ∃ ck, X.env.cells.lookup y = some ck ∧ s2.heap.IsCell ck (some (.ref l)) := by
    rcases lk with ⟨k, _⟩ | ⟨_, ck, e1, e2⟩
    · rw [show X.env.kindOf y = some .cell from hfy] at k
      cases k
    · exact ⟨ck, e1, e2⟩
  obtain ⟨ck, eck, hcell⟩ := cellAt
  obtain ⟨⟨oc, vs, tk, o1, o2, o3⟩, _, _⟩ := I2.hok c' _ hco
  have lc : cs.length = ns.length := by rw [← rc.length, List.length_map]
  have lu : us.length = ks.length := by rw [← ru.length, List.length_map]
  have nsAt : ∀ i, i < ns.length → ∃ t, cs[i]? = some (.int (ns.getD i 0) t) := fun i hi => by
    obtain ⟨z, ez, rz⟩ := rc.get (i := i) (x := V.int (ns.getD i 0)) (by rw [List.getElem?_map, List.getD_eq_getElem?_getD, List.getElem?_eq_getElem hi]; rfl)
    obtain ⟨t, rfl⟩ := rz
    exact ⟨t, ez⟩
  refine min_lam (ns := fun i => ns.getD i 0) (kf := fun i => ks.getD (ns.getD i 0).toNat 0) hh S hd ⟨hf, ⟨oc, vs, tk, o1, o2, o3⟩, I2.nolimit, NdefX.clo_has hfree (PySem.mem_of_lookup S.fy) eck, hcell, pl.isList⟩ (fun v => hbind _ _ _ _ _ v) hdx hdy hcy tc (fun i hi => nsAt i (by omega)) (by omega)
    (fun i hi => ?_) fun v h' tk2 hv kp => ?_
  · have hi' : i < ns.length := by omega
    have hmem : ns.getD i 0 ∈ ns := by rw [List.getD_eq_getElem?_getD, List.getElem?_eq_getElem hi']; exact List.getElem_mem hi'
    obtain ⟨b0, b1⟩ := hin _ hmem
    have hs63 := line63
    rw [List.length_map] at hz2
    have hk' : (ns.getD i 0).toNat < ks.length := by omega
    obtain ⟨z, ez, rz⟩ := ru.get (i := (ns.getD i 0).toNat) (x := V.int (ks.getD (ns.getD i 0).toNat 0)) (by rw [List.getElem?_map, List.getD_eq_getElem?_getD (l := ks), List.getElem?_eq_getElem hk']; rfl)
    obtain ⟨t, rfl⟩ := rz
    exact ⟨b0, by omega, t, ez⟩
  · obtain ⟨n, en⟩ : ∃ n, ns.length = n + 1 := ⟨ns.length - 1, by omega⟩
    have fl := best_is (fun i => ks.getD (ns.getD i 0).toNat 0) n
    rw [← en] at fl
    rw [lc, show ns.length - 1 = n by omega] at hv
    obtain ⟨t, et⟩ := nsAt _ fl.1
    rw [et] at hv
    cases hv
    exact ⟨.int _, H2, I2.kept kp, ⟨t, rfl⟩, q _ H2 eN T2 ⟨_, fl, rfl⟩⟩
end
end Cl

set_option Elab.async false
set_option linter.all false
set_option maxRecDepth 100000
set_option maxHeartbeats 2000000
/-! own rule: list(o), o an instance with an __iter__ over its tuple and a __len__ -/
namespace Tw
open PySem PySem.Spec PyProof.Rows L2
def rListO (K : PySem.W.Frag) (C : Addr) (fld : Str) (sp : Sp) (E : XK) : List V → Hp → VK → Prop := fun xs H Q => ∃ (a dx : Addr) (fs : List (Str × V)) (t : Addr) (zs : List V), xs = [.ref a] ∧ H a = some (.ins C dx fs) ∧ fs.lookup fld = some (.ref t) ∧ SqT K H t zs ∧ zs.length ≤ 900 ∧
  sp [.ref a] H (fun v H' => ∃ n : Nat, v = .int n ∧ n < 1000 ∧ H' = H) E ∧ ∀ q, H q = none → Q (.ref q) (upd H q (.lst zs))
theorem ty_ne {a b : String} (h : Value.type a = Value.type b) (n : decide (a = b) = false) : False := by
  injection h with h
  exact of_decide_eq_false n h
theorem if_yes {α : Type} {M : Model} {A : Around} {E : Value → Shared → Prop} {s : Shared} {c : Bool} {a b : Sem α} {Q : α → Shared → Prop} (hc : c = true) (h : wpAny M A a Q E s) : wpAny M A (if c = true then a else b) Q E s := by
  rw [hc, if_pos rfl]
  exact h
section
variable {X : Cx} {k : Nat} {f : Addr} {fd : FuncData} {ps : List Str} {sp : Sp} {A1 : Around} {pins : List (Addr × Obj)} {σ : L2.St} {H : Hp} {s : Shared} {Q : VK}
/-- a def that raises nothing, called within a built-in -/
theorem run_sub0 {us : List Value} {vs : List V} {R : Value → Shared → Prop} (F : FnOk X.prog X.w X.K X.mg X.base CX0 k f fd ps sp) (sb : Sub X k A1) (hb : L2.Binds X.K fd ps []) (I : Inv X pins σ H s) (r : Vals vs us) (h : sp vs H Q E0) :
    wpAny (model X.prog X.w) A1 (call (.ref f) us) (EP X pins σ Q) R s := by
  have hl : us.length = ps.length := by rw [← r.length]; exact F.len _ _ _ _ h
  have hb1 : BindsTo s fd ⟨us, []⟩ (ps.zip us) := by
    have z := hb s us I.kIn (by rw [List.append_nil]; exact hl)
    rw [List.append_nil] at z
    exact z
  refine wpAny_call (codeAny_mono (F.run A1 X.stack s H ⟨us, []⟩ us vs Q E0 sb.room (Sub.env0 sb I) hb1 r h) fun z s' hq => ?_)
  match z, hq with
  | .error e, hq => exact False.elim hq
  | .ok (.ret u), hq => exact I.after hq
  | .ok .next, hq => exact False.elim hq
  | .ok .brk, hq => exact False.elim hq
  | .ok .cont, hq => exact False.elim hq
end
section
variable {X : Cx} {kI k : Nat} {fi fl C : Addr} {fdI fdL : FuncData} {psL : List Str} {spL : Sp} {fld : Str}
theorem call_listO (hdI : Dn X.K C "__iter__" fi) (FI : FnIt X.prog X.w X.K X.mg X.base k fi fdI ["self"] (spIter X.K C fld)) (bI : L2.Binds X.K fdI ["self"] [])
    (hdL : Dn X.K C "__len__" fl) (FL : FnOk X.prog X.w X.K X.mg X.base CX0 k fl fdL psL spL) (bL : L2.Binds X.K fdL psL []) (hr : Room (k + 3) X.A) : CallR X (.type "list") (rListO X.K C fld spL E0) := by
  intro pins s σ H xs us Q I rv h
  obtain ⟨a, dx, fs, t, zs, rfl, ha, hf, ht, hz, hlen, q⟩ := h
  obtain ⟨u, rfl, ru⟩ := rv.one
  cases ru
  have sb1 : Sub X (k + 1) X.A.in1.in1 := Sub.in1 (Sub.in1 (⟨hr, rfl⟩ : Sub X (k + 3) X.A))
  have sb : Sub X k X.A.in1.in1 := sb1.mono (Nat.le_succ k)
  refine callType_codes (Q₁ := fun obj s₁ => obj = .ref s.heap.objs.size ∧ s₁ = { s with heap := s.heap.push { cls := .type "list", data := .seq #[] } }) PySem.F.called_list (PySem.F.typeCall_list_1 _) PySem.F.entry_list_init
    (code_list_new _ ⟨rfl, rfl⟩) fun obj s₁ h₁ => ?_
  obtain ⟨rfl, rfl⟩ := h₁
  have hS : (s.heap.push { cls := .type "list", data := .seq #[] }).get? s.heap.objs.size = some { cls := .type "list", data := .seq #[] } := Heap.get?_push_size _ rfl
  refine ⟨⟨_, hS, rfl⟩, PySem.F.args_list_init_2 _ _, ?_⟩
  have nS : H s.heap.objs.size = none := I.hok.fresh (Nat.le_refl _)
  have fS : FpOk X pins H s.heap.objs.size := I.fpOk (Nat.le_refl _) nS
  have I1 : Inv X pins σ H { s with heap := s.heap.push { cls := .type "list", data := .seq #[] } } := I.kept (t' := s.toks) fun b u e => Heap.get?_push_of_some _ e
  show wpAny _ _ (do let old ← Builtin.List.listItems (.ref s.heap.objs.size); Builtin.List.listUpdate (.ref s.heap.objs.size) (fun _ => #[]); letGo old.toList.reverse; Builtin.List.listExtendWith (.ref s.heap.objs.size) (.ref a) .none) _ _ _
  refine wpAny_bind ?_
  unfold Builtin.List.listItems
  refine wpAny_bind (wpAny_seqItems hS rfl (wpAny_pure ?_))
  show wpAny _ _ (updateSeq s.heap.objs.size (fun _ => #[]) >>= fun _ => letGo (#[] : Array Value).toList.reverse >>= fun _ => Builtin.List.listExtendWith (.ref s.heap.objs.size) (.ref a) .none) _ _ _
  refine wpAny_bind (wpAny_updateSeq hS rfl ?_)
  have hS2 := Heap.get?_update_self (h := s.heap.push { cls := .type "list", data := .seq #[] }) (f := Obj.mapSeq fun _ => #[]) hS rfl
  have I2 := I1.turnedL (h' := (s.heap.push { cls := .type "list", data := .seq #[] }).update s.heap.objs.size (Obj.mapSeq fun _ => #[])) (t' := s.toks) (ch := [s.heap.objs.size]) (fun b o hb e => (Heap.get?_update_other _ _ (fun z => hb (by simp [z]))).trans e) (fun b hb => by rw [List.mem_singleton.mp hb]; exact fS)
  refine wpAny_bind (wpAny_letGo ?_)
  generalize hSa : s.heap.objs.size = S at *
  generalize hh2 : (s.heap.push { cls := .type "list", data := .seq #[] }).update S (Obj.mapSeq fun _ => #[]) = h2 at *
  have szS : S < h2.objs.size := Heap.lt_size hS2
  obtain ⟨mA, O, rr, _, _, _⟩ := ins_get I2.hok ha
  obtain ⟨od, J, hl⟩ := O.look
  obtain ⟨m0, hF⟩ := I2.fr
  have hne : S ≠ a := fun z => by rw [← z] at ha; rw [nS] at ha; cases ha
  have h1 : Builtin.List.listSameRef (.ref S) (.ref a) = false := by simp [Builtin.List.listSameRef, hne]
  unfold Builtin.List.listExtendWith
  refine wpAny_bind (J.type.here ?_)
  have n2 : (Value.ref C == Value.type "list") = false := rfl
  have n3 : (Value.ref C == Value.type "tuple") = false := rfl
  simp only [h1, n2, n3, Bool.or_false, Bool.false_eq_true, if_false]
  have I2p := I2.pinned (fp := [S]) (fun b hb => by rw [List.mem_singleton.mp hb]; exact fS) (fun b hb => by rw [List.mem_singleton.mp hb]; exact ⟨_, hS2, fun v z => nomatch z⟩)
  refine wpAny_bind (PySem.W.owit_iter hF I2.ok.mod.kin J hdI.at_ hdI.fn (thn (run_iter FI sb bI I2p ha hf ht) fun r s3 ⟨it, er, hn, h0, I3⟩ => ?_))
  subst er
  have e2 : upd H it (ItT t it 0) it = some (ItT t it 0) := upd_same
  have g : s3.heap.get? it = some (itTup t 0) := (I3.hok it _ e2).1
  have hS3 := (I3.pin (S, _) (List.mem_append_right _ (List.mem_append_right _ (mem_pinsAt (List.mem_singleton.mpr rfl) hS2)))).1
  have hTy : s3.TypeIs (.ref it) "tuple_iterator" := ⟨_, g, rfl⟩
  have fIt := ItX.inv_fp I3 e2 (Nat.le_trans I2.sz hn)
  have I4 := ItX.inv_drop I3 e2
  rw [ItX.dropH_upd h0] at I4 fIt
  unfold PySem.W.OwitIt
  refine wpAny_specialOf (name := Str.ofString "__next__") hTy PySem.F.slot_tuple_iterator_next.lookup ?_
  have I5 := I4.pinned (fp := [it]) (fun b hb => by rw [List.mem_singleton.mp hb]; exact fIt) (fun b hb => by rw [List.mem_singleton.mp hb]; exact ⟨_, g, fun v z => nomatch z⟩)
  show wpAny _ X.A.in1.in1 (holding [.ref it] (Builtin.List.listLengthHint (.ref a)) >>= _) _ _ s3
  obtain ⟨mA5, O5, rr5, _, _, _⟩ := ins_get I5.hok ha
  obtain ⟨od5, J5, hl5⟩ := O5.look
  obtain ⟨m5, hF5⟩ := I5.fr
  refine wpAny_bind (wpAny_holding ?_)
  have lenOk : ∀ {R : Value → Shared → Prop}, wpAny (model X.prog X.w) X.A.in1.in1 (call (.builtin "len") [.ref a]) (fun r s' => ∃ (n : Nat) (tk : Tok), r = .int n tk ∧ n < 1000 ∧ Inv X (pins ++ pinsAt [S] h2 ++ pinsAt [it] s3.heap) σ H s') R s3 := by
    intro R
    refine PySem.W.len_K hF5 I5.ok.mod.kin J5 hdL.at_ hdL.fn (thn (run_sub0 FL (Sub.in1 (Sub.mono sb1 (Nat.le_refl _))) bL I5 (.cons (relR a) .nil) hlen) fun r s' ⟨z, H', I', rz, n, ez, hn, eH⟩ => ?_)
    subst ez
    rw [eH] at I'
    obtain ⟨tk, rfl⟩ := rz
    exact ⟨⟨by omega, by omega⟩, n, _, rfl, hn, I'.tok _⟩
  unfold Builtin.List.listLengthHint
  refine wpAny_bind (wpAny_bind (J5.type.here ((PySem.W.looks_findIn I5.kIn hdL.at_).here ?_)))
  refine PySem.W.KFB.if_not rfl ?_
  refine if_yes rfl ?_
  refine wpAny_bind (wpAny_rule ?_)
  refine wpAny_bind (wpAny_attempt (thn lenOk fun r s6 ⟨n, tk, er, hn6, I6⟩ => ?_))
  subst er
  refine wpAny_bind (wpAny_of_eq (a := some ((n : Nat) : Int)) (by rfl) ?_)
  refine PySem.W.KFB.if_not (by unfold Builtin.List.listTooLong; exact decide_eq_false (by rw [sizeLine_eq, Int.toNat_natCast]; omega)) ?_
  refine wpAny_pure ?_
  -- the loop
  have I7 : Inv X pins σ H s6 := I6.unpinned.unpinned
  have hS6 := (I6.pin (S, _) (List.mem_append_right _ (List.mem_append_left _ (List.mem_append_right _ (mem_pinsAt (List.mem_singleton.mpr rfl) hS2))))).1
  have g6 := (I6.pin (it, _) (List.mem_append_right _ (List.mem_append_right _ (mem_pinsAt (List.mem_singleton.mpr rfl) g)))).1
  have fIt2 : FpOk X pins H it := ⟨fIt.1, fIt.2.1, fIt.2.2.1, fIt.2.2.2.1, fIt.2.2.2.2.1, fun p hp => fIt.2.2.2.2.2 p ((List.mem_append.mp hp).elim (fun z => List.mem_append_left _ z) fun z => List.mem_append_right _ (List.mem_append_left _ z))⟩
  have Sne' : S ≠ it := fun z => by
    rw [z, g6] at hS6
    exact ty_ne (show Value.type "tuple_iterator" = Value.type "list" from congrArg Obj.cls (Option.some.inj hS6)) (by decide +kernel)
  have loop : ∀ (s7 : Shared) (c : Nat), Inv X pins σ H s7 → s7.heap.get? S = some { cls := .type "list", data := .seq #[] c } → s7.heap.get? it = some (itTup t 0) →
      codeAny (model X.prog X.w) X.A.in1 (.builtin "list.extend.loop" ⟨[.ref S, .ref it, .none], []⟩) (wants (fun r s₂ => r = .none ∧ EP X pins σ Q (.ref S) s₂) X.xe) s7 := by
    intro s7 c J7 hS7 g7
    obtain ⟨its, rz, pl, hz2⟩ := J7.tuple ht
    have tne : t ≠ it := fun z => by
      obtain ⟨o, e1, e2, _⟩ := pl
      rw [z, g7] at e1
      rw [← Option.some.inj e1] at e2
      exact ty_ne (show Value.type "tuple_iterator" = Value.type "tuple" from e2) (by decide +kernel)
    have Sne : S ≠ it := fun z => by
      rw [z, g7] at hS7
      exact ty_ne (show Value.type "tuple_iterator" = Value.type "list" from congrArg Obj.cls (Option.some.inj hS7)) (by decide +kernel)
    have St : S ≠ t := fun z => by
      obtain ⟨o, e1, e2, _⟩ := pl
      rw [← z, hS7] at e1
      rw [← Option.some.inj e1] at e2
      exact ty_ne (show Value.type "list" = Value.type "tuple" from e2) (by decide +kernel)
    have li : its.length = zs.length := rz.length.symm
    have W := (PySem.Walks.tuple (prog := X.prog) (w := X.w) (A := X.A.in1.in1) sb1.room.hd it t tne its.toArray).toS
    refine PySem.codeAny_extend_loopS (A := X.A.in1) W (by rw [List.size_toArray, sizeLine_eq]; omega) S (fun z => ?_) .none _ 0 s7 #[] c rfl (Nat.zero_le _) ⟨⟨_, g7, rfl, rfl⟩, pl⟩ hS7 (PySem.ItemsOf.nil _) fun s8 acc c8 m hS8 hit => ?_
    · rcases List.mem_cons.mp z with z | z
      · exact Sne z
      · exact St (List.mem_singleton.mp z)
    have eacc : acc = its.toArray := by
      refine Array.ext_getElem? fun j => ?_
      by_cases hj : j < acc.size
      · rw [Array.getElem?_eq_getElem hj]
        exact (hit.2 j _ (Array.getElem?_eq_getElem hj)).symm
      · rw [Array.getElem?_eq_none (by omega), Array.getElem?_eq_none (by rw [← hit.1]; omega)]
    subst eacc
    have J8 := J7.turnedL (h' := s8.heap) (t' := s8.toks) (ch := [S, it]) (fun b o hb e => m.heap b o hb e) (fun b hb => by
      rcases List.mem_cons.mp hb with z | z
      · rw [z]; exact fS
      · rw [List.mem_singleton.mp z]; exact fIt2)
    have J9 := J8.take (h' := s8.heap) (t' := s8.toks) (it := S) (o := .lst zs) (fun _ _ _ e => e) fS ⟨by rw [sizeLine_eq]; omega, its, c8, rz, hS8⟩
    have e8 : s8 = { s7 with heap := s8.heap, toks := s8.toks } := Moved.eq_with m
    rw [e8]
    exact ⟨rfl, .ref S, _, J9, rfl, q S nS⟩
  refine wpAny_ite_split (fun _ => ?_) (fun _ => wpAny_pure ⟨plainId_quiet PySem.F.plain_extend_loop _, loop s6 _ I7 hS6 g6⟩)
  refine wpAny_bind (wpAny_rule ?_)
  refine wpAny_bind ?_
  show wpAny _ _ (updateSeq S (·.push .none) >>= fun _ => updateSeq S (·.pop)) _ _ _
  refine wpAny_bind (wpAny_updateSeq hS6 rfl ?_)
  have e9 := Heap.get?_update_self (h := s6.heap) (f := Obj.mapSeq (·.push Value.none)) hS6 rfl
  refine wpAny_updateSeq e9 rfl ?_ (by show 1 ≤ sizeLine; rw [sizeLine_eq]; decide) (by show 0 ≤ sizeLine + 1; exact Nat.zero_le _)
  have e10 := Heap.get?_update_self (h := s6.heap.update S (Obj.mapSeq (·.push Value.none))) (f := Obj.mapSeq (·.pop)) e9 rfl
  have J := I7.turnedL (h' := (s6.heap.update S (Obj.mapSeq (·.push Value.none))).update S (Obj.mapSeq (·.pop))) (t' := s6.toks) (ch := [S]) (fun b o hb e => (Heap.get?_update_other _ _ (fun z => hb (by simp [z]))).trans ((Heap.get?_update_other _ _ (fun z => hb (by simp [z]))).trans e)) (fun b hb => by rw [List.mem_singleton.mp hb]; exact fS)
  refine wpAny_pure ⟨plainId_quiet PySem.F.plain_extend_loop _, loop _ _ J e10 ?_⟩
  exact (Heap.get?_update_other _ _ Sne').trans ((Heap.get?_update_other _ _ Sne').trans g6)
end
end Tw

set_option Elab.async false
set_option linter.all false
set_option maxRecDepth 100000
set_option maxHeartbeats 2000000
/-! own rule: sorted(t), t a tuple of whole numbers -/
namespace Tw
open PySem PySem.Spec PyProof.Rows L2
section
variable {prog : Program} {w : World} {A : Around} {E : Value → Shared → Prop} {s : Shared}
/-- a tuple's items, gathered: they are met as a list's are -/
theorem gather_tup {t : Addr} {vs : List Value} {Q : List Value → Shared → Prop} (ht : s.heap.IsTuple t vs.toArray)
    (h : Q vs { s with heap := (s.heap.push (seqObj "list" #[] 0)).update s.heap.objs.size (Obj.mapSeq (· ++ vs.toArray)) }) (hz : vs.length ≤ sizeLine) :
    wpAny (model prog w) A (collect (.ref t)) Q E s := by
  obtain ⟨o, ho, hc, n, hd⟩ := ht
  unfold collect
  refine wpAny_bind (wpAny_runValue (codeAny_builtin entry_proto_collect' ?_))
  show wpAny _ _ (do again (.builtin "list.__iadd__" ⟨[← newList [], .ref t], []⟩)) _ _ s
  refine wpAny_bind (wpAny_newList (wpAny_pure ⟨Code.quiet_builtin _ (by decide +kernel), codeAny_builtin entry_list_iadd' ?_⟩))
  show wpAny _ _ (Builtin.List.listExtendWith (.ref s.heap.objs.size) (.ref t) (.ref s.heap.objs.size)) _ _ { s with heap := s.heap.push (seqObj "list" #[] 0) }
  have ho2 : (s.heap.push (seqObj "list" #[] 0)).get? t = some o := Heap.get?_push_of_some _ ho
  unfold Builtin.List.listExtendWith
  refine wpAny_bind (wpAny_typeOf (T := "tuple") ⟨o, ho2, hc⟩ ?_)
  have tt : (Value.type "tuple" == Value.type "tuple") = true := by rfl
  rw [if_pos (by rw [tt]; simp)]
  refine wpAny_bind (listItems_at ho2 hd ?_)
  refine wpAny_bind (listItems_at (xs := #[]) (n := 0) (Heap.get?_push_size _ rfl) rfl ?_)
  rw [if_neg (by simp)]
  refine wpAny_bind (listUpdate_at (xs := #[]) (n := 0) (Heap.get?_push_size _ rfl) rfl ?_ (Nat.zero_le _) (by show (#[] ++ vs.toArray).size ≤ sizeLine + 1; simp only [Array.size_append, List.size_toArray, List.length_nil]; omega))
  refine wpAny_pure ?_
  refine wpAny_bind (wpAny_load (get?_update_seq (Heap.get?_push_size _ rfl) _) ?_)
  show wpAny _ _ (pure ((#[] : Array Value) ++ vs.toArray).toList) Q E _
  rw [show ((#[] : Array Value) ++ vs.toArray).toList = vs by simp]
  exact wpAny_pure h
end
def rSortedTu (K : PySem.W.Frag) : List V → Hp → VK → Prop := fun vs H Q => ∃ (a : Addr) (ns : List Int), vs = [V.ref a] ∧ SqT K H a (ns.map V.int) ∧
  ∀ (ns' : List Int) (p : Addr), ns'.Perm ns → ns'.Pairwise (· ≤ ·) → H p = none → Q (.ref p) (upd H p (.lst (ns'.map V.int)))
section
variable {X : Cx}
theorem cr_sortedTu : CallR X (.builtin "sorted") (rSortedTu X.K) := by
  intro pins s σ H vs us Q I r h
  obtain ⟨a, ns, rfl, hs, q⟩ := h
  obtain ⟨its, rv, hl, hz⟩ := I.tuple hs
  rw [Vals.ref1 r]
  have hi := rv.ints
  have hzi : its.length ≤ sizeLine := by rw [← rv.length]; exact hz
  refine Calls.call_function_entry kind_sorted plain_sorted entry_sorted (args_sorted1 _) ?_
  unfold Builtin.«sorted»
  refine wpAny_bind (m := checkCount "sorted" 1 1 _) (wpAny_pure ?_)
  refine wpAny_bind (gather_tup hl ?_ hzi)
  refine wpAny_bind (wpAny_newList ?_ hzi)
  have hsz : ((s.heap.push (seqObj "list" #[] 0)).update s.heap.objs.size (Obj.mapSeq (· ++ its.toArray))).objs.size = s.heap.objs.size + 1 := by
    rw [Heap.size_update, size_push']
  have hoL : (((s.heap.push (seqObj "list" #[] 0)).update s.heap.objs.size (Obj.mapSeq (· ++ its.toArray))).push (seqObj "list" its.toArray 0)).get? (s.heap.objs.size + 1) = some (seqObj "list" its.toArray 0) := by
    rw [← hsz]
    exact Heap.get?_push_size _ rfl
  show wpAny _ _ _ _ _ { s with heap := ((s.heap.push (seqObj "list" #[] 0)).update s.heap.objs.size (Obj.mapSeq (· ++ its.toArray))).push (seqObj "list" its.toArray 0) }
  rw [hsz]
  refine wpAny_bind (wpAny_holding (wpAny_call_entry slot_list_sort ⟨_, hoL, rfl⟩ entry_list_sort (SrtO.list_sort_ord SrtO.swo_int hoL hzi (fun h2 => SrtO.ints_sortable hi h2) fun out h1 h2 => ⟨_, rfl, ?_⟩) (args_list_sort _)))
  refine wpAny_pure ⟨_, rfl, ?_⟩
  obtain ⟨k1, k2, k3⟩ := SrtO.ints_out hi h1 h2
  obtain ⟨ep, he'⟩ := PyProof.Rows.sortedAll_at s.heap its out.toArray
  have hlen : ((out.map SrtO.iv).map V.int).length ≤ sizeLine := by
    rw [List.length_map, k2.length_eq]
    rw [List.length_map] at hz
    exact hz
  exact ⟨.ref _, upd H (s.heap.objs.size + 1) (.lst ((out.map SrtO.iv).map V.int)), I.laid (t' := s.toks) (fun _ _ => PyProof.Rows.sortedAll_old) (Nat.le_succ _) ⟨hlen, out, ep, vals_of_ints k1, he'⟩, rfl, q _ _ k2 k3 (I.hok.fresh (Nat.le_succ _))⟩
end
end Tw

set_option Elab.async false
set_option linter.all false
set_option maxRecDepth 100000
set_option maxHeartbeats 1000000
/-! != of two tuples of two things, equal ones in turn -/
namespace Cq
open PySem PySem.SeqAt
open AutoSeq1 (wpAny_loadPart')
open MeetsSeq MeetsSeq2 MeetsSeq3 SeqRoads2
theorem pairs_ne {prog : Program} {w : World} {A : Around} {R : Result → Shared → Prop} {p q : Addr} {a b c e : Value} {k k2 : Nat} {u u2 : Option Addr} {z z2 : Array (Option Value)} {s : Shared}
    (hp : s.heap.get? p = some { cls := .type "tuple", dict := u, data := .seq #[a, b] k, slots := z }) (hq : s.heap.get? q = some { cls := .type "tuple", dict := u2, data := .seq #[c, e] k2, slots := z2 })
    (h : wpAny (model prog w) A.in1 (eqBool a c) (fun r s1 => r = true ∧ wpAny (model prog w) A.in1 (eqBool b e) (fun r s2 => r = true ∧ R (.ok (.ret (.bool false))) s2) (fun x s2 => R (.error x) s2) s1) (fun x s1 => R (.error x) s1) s) :
    wpAny (model prog w) A.in1 (Builtin.«tuple.__ne__» ⟨[.ref p, .ref q], []⟩) (GQ.FinOf prog w A R) (fun x s1 => R (.error x) s1) s := by
  have sub2 := AutoSeq1.sub_tuple_tuple
  obtain ⟨hh, gg, dd, tk, os⟩ := s
  wp_walk using wpAny_loadPart' hp, wpAny_loadPart' hq, wpAny_forIn_list _ (fun rest t s1 => t.1 = none ∧ ((rest = [(a, c), (b, e)] ∧ wpAny (model prog w) A.in1 (eqBool a c) (fun r s1 => r = true ∧ wpAny (model prog w) A.in1 (eqBool b e) (fun r s2 => r = true ∧ R (.ok (.ret (.bool false))) s2) (fun x s2 => R (.error x) s2) s1) (fun x s1 => R (.error x) s1) s1) ∨
    (rest = [(b, e)] ∧ wpAny (model prog w) A.in1 (eqBool b e) (fun r s2 => r = true ∧ R (.ok (.ret (.bool false))) s2) (fun x s2 => R (.error x) s2) s1) ∨ (rest = [] ∧ R (.ok (.ret (.bool false))) s1))) _
  case turn =>
    rintro ⟨y, x⟩ rest t s1 ⟨ht, ⟨e1, h1⟩ | ⟨e1, h1⟩ | ⟨e1, _⟩⟩
    · injection e1 with e1 e2
      injection e1 with e3 e4
      subst e3 e4 e2
      refine wpAny_bind (wpAny_mono h1 (fun r s2 g => ?_) fun _ _ g => g)
      obtain ⟨rfl, g⟩ := g
      wp_walk
      exact ⟨rfl, .inr (.inl ⟨rfl, g⟩)⟩
    · injection e1 with e1 e2
      injection e1 with e3 e4
      subst e3 e4 e2
      refine wpAny_bind (wpAny_mono h1 (fun r s2 g => ?_) fun _ _ g => g)
      obtain ⟨rfl, g⟩ := g
      wp_walk
      exact ⟨rfl, .inr (.inr ⟨rfl, g⟩)⟩
    · cases e1
  case fin =>
    rintro ⟨t1, t2⟩ s1 ⟨ht, ⟨e1, _⟩ | ⟨e1, _⟩ | ⟨_, h1⟩⟩
    · cases e1
    · cases e1
    · simp only at ht
      subst ht
      wp_walk
      simpa [Builtin.Tuple.tupleCompareSizes] using h1
  case h => exact ⟨rfl, .inl ⟨rfl, h⟩⟩
end Cq
namespace L2
open PySem PySem.Spec PyProof.Rows
theorem vals_two {a b : V} {l : List Value} (r : Vals [a, b] l) : ∃ x y, l = [x, y] ∧ RelV a x ∧ RelV b y := by
  cases r with
  | cons ra r =>
    cases r with
    | cons rb r =>
      cases r
      exact ⟨_, _, rfl, ra, rb⟩
def DPair (K : PySem.W.Frag) (D1 D2 : Eqv) : Eqv := fun x y H => ∃ (p q : Addr) (a b c e : V), x = .ref p ∧ y = .ref q ∧ SqT K H p [a, b] ∧ SqT K H q [c, e] ∧ D1 a c H ∧ D2 b e H
def rNeP (D : Eqv) : R2 := fun x y H Q => D x y H ∧ ∀ H', Ext H H' → Q (.bl false) H'
theorem op_neP {X : Cx} {n : Nat} {D1 D2 : Eqv} (g1 : EqG X n D1) (g2 : EqG X n D2) (m2 : Mon D2) (hr : Room (n + 1) X.A) : OpR X (compareOp .NotEq) (rNeP (DPair X.K D1 D2)) := by
  intro pins s σ H x y v u Q I rx ry ⟨⟨p, q, a, b, c, e, ex, ey, hp, hq, d1, d2⟩, k⟩
  subst ex ey
  cases rx
  cases ry
  have sb : Sub X (n + 1) X.A := ⟨hr, rfl⟩
  obtain ⟨its, r, e1, _⟩ := I.tuple hp
  obtain ⟨its2, r2, e2, _⟩ := I.tuple hq
  obtain ⟨va, vb, ei, ra, rb⟩ := vals_two r
  obtain ⟨vc, ve, ei2, rc, re⟩ := vals_two r2
  subst ei ei2
  obtain ⟨⟨cl, u1, da, z1⟩, o1, c1, n1, w1⟩ := id e1
  obtain ⟨⟨cl2, u2, da2, z2⟩, o2, c2, n2, w2⟩ := id e2
  dsimp only at c1 w1 c2 w2
  subst c1 w1 c2 w2
  show wpAny (model X.prog X.w) X.A (richCompare .NotEq (.ref p) (.ref q)) (EP X pins σ Q) X.xe s
  refine wpAny_richCompare_same_room (op := .NotEq) ⟨_, o1, rfl⟩ ⟨_, o2, rfl⟩ F.slot_tuple_ne (GQ.call_here F.slot_tuple_ne ⟨_, o1, rfl⟩ F.entry_tuple_ne (F.args_tuple_ne_2 _ _) ?_) hr.units0
  refine Cq.pairs_ne (R := wants (fun v s' => v ≠ .notImplemented ∧ EP X pins σ Q v s') X.xe) o1 o2 ?_
  refine wpAny_mono (g1 X.A.in1 pins s σ H _ _ va vc sb.in1 I ra rc d1) (fun t s1 ⟨ht, H1, I1, x1⟩ => ⟨ht, ?_⟩) fun _ _ g => g
  refine wpAny_mono (g2 X.A.in1 pins s1 σ H1 _ _ vb ve sb.in1 I1 rb re (m2 _ _ _ _ x1 d2)) (fun t s2 ⟨ht, H2, I2, x2⟩ => ⟨ht, ?_⟩) fun _ _ g => g
  exact ⟨(fun g => nomatch g), .bl false, H2, I2, rfl, k H2 (x1.trans x2)⟩
end L2


set_option Elab.async false
set_option linter.all false
set_option maxRecDepth 100000
set_option maxHeartbeats 4000000
/-! set(xs), xs a list of ints, as a value -/
namespace L2
open PySem PySem.Spec PyProof.Rows
section
variable {P : Program} {w : World} {A : Around} {E : Value → Shared → Prop}
/-- the set that is there at first -/
abbrev eS (w : World) : Obj := { cls := .type "set", dict := none, data := .set #[] 0 (.fresh 0 0 (!w.params.followText "set-order")) }
theorem init_over {z : Shared} {D l : Addr} {items : Array Value} {ns : List Int} {R : Result → Shared → Prop} (hh : A.handled = none) (hD : z.heap.get? D = some (eS w)) (hl : z.heap.IsList l items) (hit : IntsAre items.toList ns) (hb : ns.length + 1 < scanBound) (hne : l ≠ D)
    (q : ∀ (h' : Heap) (tk c : Nat), SetR w h' D (fun j => decide (j ∈ ns)) c → c ≤ ns.length → (∀ b o, b ≠ D → z.heap.get? b = some o → h'.get? b = some o) → R (.ok (.ret .none)) { z with heap := h', toks := tk }) :
    codeAny (model P w) A (.call (.builtin "set.__init__") ⟨[.ref D, .ref l], []⟩) R z := by
  have hn : items.size = ns.length := by
    have e := IntsAre.length hit
    rw [Array.length_toList] at e
    exact e
  have hT : Shared.TypeIs z (.ref D) "set" := ⟨_, hD, rfl⟩
  have lD : D < z.heap.objs.size := Heap.lt_size hD
  obtain ⟨⟨oc, od, oa, os⟩, hol, hcl, nl, hdl⟩ := id hl
  have ll : l < z.heap.objs.size := Heap.lt_size hol
  dsimp only at hcl hdl
  subst hcl hdl
  have no1 := F.sub_list_set
  have no2 := F.sub_list_frozenset
  have no3 : (Value.type "list" == Value.type "dict") = false := by decide
  refine codeAny_call_builtin F.called_set.init.plain F.entry_set_init (check_set_init_1 hT ?_)
  unfold Builtin.«set.__init__» noKeywords Builtin.Frozenset.updateFrom
  generalize hPI : pyIter = PI
  wp_walk
  subst hPI
  refine wpAny_pyIter_list hl ?_
  refine wpAny_bind (wpAny_runValue ?_)
  have free3 : A.in1.in1.handled = none := by simp [hh]
  have apart : l ≠ z.heap.objs.size := Nat.ne_of_lt ll
  have offS : D ∉ [z.heap.objs.size, l] := fun m => by
    rcases List.mem_cons.mp m with y | y
    · exact absurd y (Nat.ne_of_lt lD)
    · exact hne (List.mem_singleton.mp y).symm
  have each : ∀ (i : Nat) (v : Value), items[i]? = some v → ∃ k t, ns[i]? = some k ∧ v = .int k t := fun i v e => by
    have hi : i < ns.length := hn ▸ (Array.getElem?_eq_some_iff.mp e).1
    obtain ⟨t, e2⟩ := IntsAre.int_at hit i v (by rw [Array.getElem?_toList]; exact e)
    exact ⟨ns[i], t, List.getElem?_eq_getElem hi, by rw [e2, List.getD_eq_getElem?_getD, List.getElem?_eq_getElem hi]; rfl⟩
  refine set_update_ints ((Walks.list free3 _ l apart items).toS) D offS ns hn hb each (items.size - 0) 0 _ (by omega) (Nat.zero_le _) ?_ ⟨0, Nat.le_refl 0, ?_⟩ ?_
  · exact ⟨⟨_, Heap.get?_push_size _ rfl, rfl, rfl⟩, hl.push _⟩
  · exact setR_new_at (Heap.get?_push_of_some _ hD)
  rintro ⟨h', gens', drawn', tk', os'⟩ c moved hc new
  obtain rfl : gens' = z.gens := moved.gens
  obtain rfl : drawn' = z.drawn := moved.drawn
  obtain rfl : os' = z.os := moved.os
  show wpAny _ _ _ _ _ _
  refine wpAny_pure ?_
  show wpAny _ _ (ret Value.none) _ _ _
  refine wpAny_pure (q h' tk' c new (by omega) fun b o hbD e => ?_)
  have lb : b < z.heap.objs.size := Heap.lt_size e
  refine moved.heap b o (fun m => ?_) (Heap.get?_push_of_some _ e)
  rcases List.mem_cons.mp m with y | y
  · exact hbD y
  · exact absurd (List.mem_singleton.mp y) (Nat.ne_of_lt lb)
theorem set_over {z : Shared} {l : Addr} {items : Array Value} {ns : List Int} {Q : Value → Shared → Prop} (hh : A.handled = none) (hl : z.heap.IsList l items) (hit : IntsAre items.toList ns) (hb : ns.length + 1 < scanBound)
    (q : ∀ (h' : Heap) (tk c : Nat), SetR w h' z.heap.objs.size (fun j => decide (j ∈ ns)) c → c ≤ ns.length → (∀ b o, z.heap.get? b = some o → h'.get? b = some o) → Q (.ref z.heap.objs.size) { z with heap := h', toks := tk }) :
    wpAny (model P w) A (call (.type "set") [.ref l]) Q E z := by
  obtain ⟨c0, t0, mro0⟩ := F.called_set.mro
  have m1 := F.called_set.made
  have m2 := F.called_set.sub
  have m3 := F.called_set.notType
  have m4 := F.called_set.canCreate
  have m5 := F.typeCall_set_1 (.ref l)
  have ll : l < z.heap.objs.size := by
    obtain ⟨o, ho, _⟩ := id hl
    exact Heap.lt_size ho
  refine wpAny_call (codeAny_of_tree ?_)
  show wpAny _ _ (callAny (.type "set") _) _ _ _
  refine wpAny_pure ⟨Code.quiet_builtin _ (by decide +kernel), codeAny_builtin F.entry_type_call ?_⟩
  rw [Around.under_plain (weight_type_call_type "set" [.ref l] []) rfl]
  repeat any_goals first | assumption | wp_step
  have new1 : (z.heap.push (eS w)).get? z.heap.objs.size = some (eS w) := Heap.get?_push_size _ rfl
  refine codeAny_mono (code_set_led1 (.ref l) (E := E) (Q₁ := fun v y => v = .ref z.heap.objs.size ∧ y = { z with heap := z.heap.push (eS w) }) ⟨rfl, rfl⟩) fun r y hr => ?_
  cases r with
  | error e => exact hr
  | ok fl =>
    cases fl with
    | ret v =>
      obtain ⟨rfl, rfl⟩ := hr
      have hT : Shared.TypeIs { z with heap := z.heap.push (eS w) } (.ref z.heap.objs.size) "set" := ⟨_, new1, rfl⟩
      have i1 := F.called_set.init.lookup
      have i2 := F.called_set.init.bind (.ref z.heap.objs.size)
      repeat any_goals first | assumption | wp_step
      refine init_over (A := A.in1) (z := { z with heap := z.heap.push (eS w) }) (D := z.heap.objs.size) (by simp [hh]) new1 (hl.push _) hit hb (Nat.ne_of_lt ll) fun h' tk c S hc k => ?_
      show wpAny _ _ (pure (some Value.none)) _ _ _
      repeat any_goals first | assumption | wp_step
      exact q h' tk c S hc fun b o e => k b o (Nat.ne_of_lt (Heap.lt_size e)) (Heap.get?_push_of_some _ e)
    | _ => exact hr.elim
end
section
variable {X : Cx}
/-- set(xs) -/
def rSetLI (K : PySem.W.Frag) (w : World) : List V → Hp → VK → Prop := fun xs H Q => ∃ (l : Addr) (ns : List Int), xs = [V.ref l] ∧ SqL K H l (ns.map V.int) ∧ ns.length ≤ 1000 ∧ ∀ p n, n ≤ ns.length → H p = none → Q (.ref p) (upd H p (SetO w p (fun j => decide (j ∈ ns)) n))
theorem cr_setLI (hc : X.calm = true) : CallR X (.type "set") (rSetLI X.K X.w) := by
  intro pins s σ H xs us Q I r h
  obtain ⟨l, ns, rfl, hl, h1, q⟩ := h
  obtain ⟨its, rv, pl, _⟩ := I.list hl
  rw [Vals.ref1 r]
  refine set_over (I.ok.hd hc) pl.isList (ns := ns) (by simpa using rv.ints) (by unfold scanBound; omega) fun h' tk c R hc k => ?_
  exact ⟨.ref _, upd H s.heap.objs.size (SetO X.w s.heap.objs.size (fun j => decide (j ∈ ns)) c), I.laid (t' := tk) k (Nat.le_refl _) (setO_new R), rfl, q _ c hc (I.hok.fresh (Nat.le_refl _))⟩
end
end L2

set_option Elab.async false
set_option linter.all false
set_option maxRecDepth 100000
set_option maxHeartbeats 4000000
/-! sorted(xs), xs a list of tuples of ints, as long as a list may be -/
namespace L2
open PySem PySem.Spec PyProof.Rows PySem.W
abbrev tupE (ns : List Int) : PyData := .tuple (ns.map .int)
theorem tupE_le : dataLe false tupE = fun p q => decide (p ≤ q) := by
  funext p q
  show (!dataLt (.tuple (q.map .int)) (.tuple (p.map .int))) = _
  rw [dataLt_tuple]
  show (!rowLt (q.map .int) (p.map .int)) = _
  rw [dataLt_ints]
  by_cases h : q < p
  · have h' : ¬ p ≤ q := fun r => List.not_lt.mpr r h
    simp [h, h']
  · have h' : p ≤ q := List.not_lt.mp h
    simp [h, h']
section
variable {X : Cx} {pins : List (Addr × Obj)} {σ : St} {H : Hp} {s : Shared}
abbrev TupV (K : PySem.W.Frag) (H : Hp) (u : Value) (ns : List Int) : Prop := ∃ t, u = .ref t ∧ SqT K H t (ns.map V.int)
theorem tupV_of : ∀ {xs : List V} {bs : List (List Int)} {us : List Value}, Paired (TupI X.K H) xs bs → Vals xs us → EachIs (TupV X.K H) us bs
  | _, _, _, .nil, .nil => .nil
  | _, _, _, .cons ⟨t, e, h⟩ p, .cons r v => by
    subst e
    cases r
    exact .cons ⟨t, rfl, h⟩ (tupV_of p v)
theorem tupV_to : ∀ {bs : List (List Int)} {us : List Value}, EachIs (TupV X.K H) us bs → Paired (TupI X.K H) (us.map bkV) bs ∧ ∀ u ∈ us, ∃ a, u = Value.ref a
  | _, _, .nil => ⟨.nil, fun u hu => absurd hu (by simp)⟩
  | _, _, .cons ⟨t, e, h⟩ p => by
    subst e
    obtain ⟨h1, h2⟩ := tupV_to p
    refine ⟨.cons ⟨t, rfl, h⟩ h1, fun u hu => ?_⟩
    rcases List.mem_cons.mp hu with e | hu
    · exact ⟨t, e⟩
    · exact h2 u hu
theorem tupV_reads (I : Inv X pins σ H s) {u : Value} {ns : List Int} (h : TupV X.K H u ns) : ∃ as, Reads s.heap u (tupE ns) as := by
  obtain ⟨t, rfl, ht⟩ := h
  obtain ⟨its, rv, hT, _⟩ := I.tuple ht
  exact ⟨_, reads_tuple_ints hT (by simpa using rv.ints)⟩
/-- sorted(xs): the items ascending as tuples are -/
def rSortTA (K : PySem.W.Frag) : List V → Hp → VK → Prop := fun vs H Q => ∃ (a : Addr) (xs : List V) (bs : List (List Int)), vs = [V.ref a] ∧ SqL K H a xs ∧ Paired (TupI K H) xs bs ∧ (∀ b ∈ bs, b ≠ []) ∧
  ∀ (ys : List V) (p : Addr), Paired (TupI K H) ys (bs.mergeSort fun p q => decide (p ≤ q)) → H p = none → Q (.ref p) (upd H p (.lst ys))
theorem cr_sortTA (hu : X.A.units + 65 < cLine) : CallR X (.builtin "sorted") (rSortTA X.K) := by
  intro pins s σ H vs us Q I r h
  obtain ⟨a, xs, bs, rfl, hs, hp, hne, q⟩ := h
  obtain ⟨its, rv, hl, hz⟩ := I.list hs
  rw [Vals.ref1 r]
  have e0 : EachIs (TupV X.K H) its bs := tupV_of hp rv
  have hlen : bs.length = xs.length := (Paired.length hp).symm
  refine sorted_data (A := X.A) (R := TupV X.K H) (enc := tupE) hl.isList e0 (e0.mono fun u ns h => tupV_reads I h) (AllAlike.of fun b b' => by simp [alike, alike_ints]) (.inl fun d hd => ?_) (by rw [hlen]; exact hz) (fun b _ => ?_) fun out ho eo => ?_
  · obtain ⟨b, hb, rfl⟩ := List.mem_map.mp hd
    match b, hne b hb with
    | x :: r, _ => exact ⟨_, _, rfl⟩
  · have : (tupE b).depth ≤ 1 := by simp [PyData.depth, depth_ints]
    omega
  · rw [tupE_le] at eo
    obtain ⟨e1, e2⟩ := tupV_to eo
    obtain ⟨ep, he'⟩ := PyProof.Rows.sortedAll_at s.heap its out.toArray
    have hz2 : (out.map bkV).length ≤ sizeLine := by
      rw [List.length_map, ho, hlen]
      exact hz
    exact ⟨.ref _, upd H (s.heap.objs.size + 1) (.lst (out.map bkV)), I.laid (t' := s.toks) (fun _ _ => PyProof.Rows.sortedAll_old) (Nat.le_succ _) ⟨hz2, out, ep, bkV_vals e2, he'⟩, rfl, q _ _ e1 (I.hok.fresh (Nat.le_succ _))⟩
end
end L2

set_option Elab.async false
set_option linter.all false
set_option maxRecDepth 100000
set_option maxHeartbeats 4000000
/-! math.factorial -/
namespace L2
open PySem PySem.Spec PyProof.Rows
section
variable {X : Cx}
abbrev facN (n : Nat) : Nat := PySem.Builtin.Math.factorialNat n
def rFac : List V → Hp → VK → Prop := fun vs H Q => ∃ n : Nat, vs = [.int n] ∧ n ≤ 20000 ∧ Q (.int (facN n : Nat)) H
theorem cr_fac : CallR X (.builtin "math.factorial") rFac := by
  intro pins s σ H vs us Q I r h
  obtain ⟨n, rfl, hn, q⟩ := h
  cases r with
  | cons r1 r2 =>
    cases r2
    obtain ⟨t, rfl⟩ := r1
    exact PySem.W.mc_factorial (by omega) (by omega) fun _ => ⟨.int _, H, I.tok _, ⟨_, rfl⟩, q⟩
end
end L2

set_option Elab.async false
set_option linter.all false
set_option maxRecDepth 100000
set_option maxHeartbeats 4000000
/-! sorted(xs), xs a list of one item at most, whatever it is -/
namespace L2
open PySem PySem.Spec PyProof.Rows PySem.W
section
variable {X : Cx}
def rSort1 (K : PySem.W.Frag) : List V → Hp → VK → Prop := fun vs H Q => ∃ (a : Addr) (xs : List V), vs = [V.ref a] ∧ SqL K H a xs ∧ xs.length ≤ 1 ∧
  ∀ p : Addr, H p = none → Q (.ref p) (upd H p (.lst xs))
theorem cr_sort1 : CallR X (.builtin "sorted") (rSort1 X.K) := by
  intro pins s σ H vs us Q I r h
  obtain ⟨a, xs, rfl, hs, h1, q⟩ := h
  obtain ⟨its, rv, hl, hz⟩ := I.list hs
  rw [Vals.ref1 r]
  have hlen : xs.length = its.length := rv.length
  refine Srt.sorted_any hl.isList (by omega) (fun h2 => by omega) fun out hp => ?_
  have e : out = its := by
    match its, hlen with
    | [], _ => exact List.Perm.eq_nil hp
    | [x], _ => exact List.perm_singleton.mp hp
    | _ :: _ :: _, hl => simp only [List.length_cons] at hl; omega
  subst e
  obtain ⟨ep, he'⟩ := PyProof.Rows.sortedAll_at s.heap out out.toArray
  exact ⟨.ref _, upd H (s.heap.objs.size + 1) (.lst xs), I.laid (t' := s.toks) (fun _ _ => PyProof.Rows.sortedAll_old) (Nat.le_succ _) ⟨hz, out, ep, rv, he'⟩, rfl, q _ (I.hok.fresh (Nat.le_succ _))⟩
end
end L2

set_option Elab.async false
set_option linter.all false
set_option maxRecDepth 100000
set_option maxHeartbeats 4000000
/-! xs.extend(t), t a tuple -/
namespace PySem
open PySem PySem.W PySem.AutoSeq1
theorem ext_tup {l b : Addr} {items items2 : Array Value} {n n2 : Nat} {dc : Option Addr} {sl : Array (Option Value)} (hs0 : ¬(!items.isEmpty && Builtin.List.listTooLong (items.size + items2.size)) = true) (hs1 : items.size ≤ sizeLine) (hs2 : items.size + items2.size ≤ sizeLine + 1) :
    Meets (Builtin.«list.extend» ⟨[.ref l, .ref b], []⟩) (fun _ R s => s.heap.get? l = some { cls := .type "list", dict := none, data := .seq items n, slots := #[] } ∧ s.heap.get? b = some { cls := .type "tuple", dict := dc, data := .seq items2 n2, slots := sl } ∧
      R (.ok (.ret Value.none)) { s with heap := s.heap.update l (Obj.mapSeq fun x => x ++ items2), toks := s.toks }) :=
  .of_wp fun prog w A R s h => by
    obtain ⟨hp, g, d, tk, os⟩ := s
    obtain ⟨hl, hb, h⟩ := h
    have f1 := idx_int
    have f2 := sub_tuple_tuple
    have f3 := sub_list_list
    have f4 := sub_tuple_list
    have f5 := sub_list_tuple
    have hz' : (items ++ items2).size ≤ sizeLine + 1 := by rw [Array.size_append]; exact hs2
    wp_walk using (wpAny_updateSeq hl rfl (hz := hs1) (_hz' := hz')), wpAny_loadPart' hl, wpAny_loadPart' hb
    exact ⟨_, rfl, h⟩
end PySem
namespace L2
open PySem PySem.Spec PyProof.Rows PySem.W
section
variable {X : Cx}
def rExtT (K : PySem.W.Frag) : V → List V → Hp → VK → Prop := fun x vs H Q => ∃ (l b : Addr) (xs zs : List V), x = .ref l ∧ vs = [.ref b] ∧ H l = some (.lst xs) ∧ SqT K H b zs ∧ xs.length + zs.length ≤ sizeLine ∧
  Q .non (upd H l (.lst (xs ++ zs)))
theorem mt_extendT : MtM X "list.extend" (rExtT X.K) := by
  intro pins s σ H x vs v us Q I rx rv h
  obtain ⟨l, b, xs, zs, rfl, rfl, hH, hB, hz, q⟩ := h
  cases rx
  obtain ⟨u, rfl, ru⟩ := rv.one
  cases ru
  obtain ⟨z, its, n, r, hl, e⟩ := I.lstM hH
  obtain ⟨its2, r2, ⟨ob, eb, hc, n2, hd⟩, hl2⟩ := I.tuple hB
  obtain ⟨cls, dc, data, sl⟩ := ob
  dsimp only at hc hd
  subst hc hd
  have h1 := r.length
  have h2 := r2.length
  have hsz : its.toArray.size + its2.toArray.size ≤ sizeLine := by rw [List.size_toArray, List.size_toArray]; omega
  have hlong : ¬ (!its.toArray.isEmpty && Builtin.List.listTooLong (its.toArray.size + its2.toArray.size)) = true := by
    rw [notLongL hsz, Bool.and_false]
    exact Bool.false_ne_true
  refine call_meets F.slot_list_extend ⟨_, e, rfl⟩ F.entry_list_extend (F.args_list_extend_2 _ _) (PySem.ext_tup hlong (by rw [List.size_toArray]; omega) (by omega)) ⟨e, eb, ?_⟩
  refine ⟨.non, _, I.lset (its' := its ++ its2) hH e (by simp) (r.append r2) ?_, rfl, q⟩
  rw [List.length_append]
  omega
end
end L2

set_option Elab.async false
set_option linter.all false
set_option maxRecDepth 100000
set_option maxHeartbeats 4000000
/-! set(xs), xs a tuple of ints, as a value -/
namespace L2
open PySem PySem.Spec PyProof.Rows
section
variable {P : Program} {w : World} {A : Around} {E : Value → Shared → Prop}
theorem sub_tup_set : isSubtype (.type "tuple") (.type "set") = pure false := by rw [isSubtype_type]; kernel_rfl
theorem sub_tup_frz : isSubtype (.type "tuple") (.type "frozenset") = pure false := by rw [isSubtype_type]; kernel_rfl
theorem init_overT {z : Shared} {D l : Addr} {items : Array Value} {ns : List Int} {R : Result → Shared → Prop} (hh : A.handled = none) (hD : z.heap.get? D = some (eS w)) (hl : z.heap.IsTuple l items) (hit : IntsAre items.toList ns) (hb : ns.length + 1 < scanBound) (hne : l ≠ D)
    (q : ∀ (h' : Heap) (tk c : Nat), SetR w h' D (fun j => decide (j ∈ ns)) c → c ≤ ns.length → (∀ b o, b ≠ D → z.heap.get? b = some o → h'.get? b = some o) → R (.ok (.ret .none)) { z with heap := h', toks := tk }) :
    codeAny (model P w) A (.call (.builtin "set.__init__") ⟨[.ref D, .ref l], []⟩) R z := by
  have hn : items.size = ns.length := by
    have e := IntsAre.length hit
    rw [Array.length_toList] at e
    exact e
  have hT : Shared.TypeIs z (.ref D) "set" := ⟨_, hD, rfl⟩
  have lD : D < z.heap.objs.size := Heap.lt_size hD
  obtain ⟨⟨oc, od, oa, os⟩, hol, hcl, nl, hdl⟩ := id hl
  have ll : l < z.heap.objs.size := Heap.lt_size hol
  dsimp only at hcl hdl
  subst hcl hdl
  have no1 := sub_tup_set
  have no2 := sub_tup_frz
  have no3 : (Value.type "tuple" == Value.type "dict") = false := by decide
  refine codeAny_call_builtin F.called_set.init.plain F.entry_set_init (check_set_init_1 hT ?_)
  unfold Builtin.«set.__init__» noKeywords Builtin.Frozenset.updateFrom
  generalize hPI : pyIter = PI
  wp_walk
  subst hPI
  refine wpAny_pyIter_tuple hl ?_
  refine wpAny_bind (wpAny_runValue ?_)
  have free3 : A.in1.in1.handled = none := by simp [hh]
  have apart : l ≠ z.heap.objs.size := Nat.ne_of_lt ll
  have offS : D ∉ [z.heap.objs.size, l] := fun m => by
    rcases List.mem_cons.mp m with y | y
    · exact absurd y (Nat.ne_of_lt lD)
    · exact hne (List.mem_singleton.mp y).symm
  have each : ∀ (i : Nat) (v : Value), items[i]? = some v → ∃ k t, ns[i]? = some k ∧ v = .int k t := fun i v e => by
    have hi : i < ns.length := hn ▸ (Array.getElem?_eq_some_iff.mp e).1
    obtain ⟨t, e2⟩ := IntsAre.int_at hit i v (by rw [Array.getElem?_toList]; exact e)
    exact ⟨ns[i], t, List.getElem?_eq_getElem hi, by rw [e2, List.getD_eq_getElem?_getD, List.getElem?_eq_getElem hi]; rfl⟩
  refine set_update_ints ((Walks.tuple free3 _ l apart items).toS) D offS ns hn hb each (items.size - 0) 0 _ (by omega) (Nat.zero_le _) ?_ ⟨0, Nat.le_refl 0, ?_⟩ ?_
  · exact ⟨⟨_, Heap.get?_push_size _ rfl, rfl, rfl⟩, hl.push _⟩
  · exact setR_new_at (Heap.get?_push_of_some _ hD)
  rintro ⟨h', gens', drawn', tk', os'⟩ c moved hc new
  obtain rfl : gens' = z.gens := moved.gens
  obtain rfl : drawn' = z.drawn := moved.drawn
  obtain rfl : os' = z.os := moved.os
  show wpAny _ _ _ _ _ _
  refine wpAny_pure ?_
  show wpAny _ _ (ret Value.none) _ _ _
  refine wpAny_pure (q h' tk' c new (by omega) fun b o hbD e => ?_)
  have lb : b < z.heap.objs.size := Heap.lt_size e
  refine moved.heap b o (fun m => ?_) (Heap.get?_push_of_some _ e)
  rcases List.mem_cons.mp m with y | y
  · exact hbD y
  · exact absurd (List.mem_singleton.mp y) (Nat.ne_of_lt lb)
theorem set_overT {z : Shared} {l : Addr} {items : Array Value} {ns : List Int} {Q : Value → Shared → Prop} (hh : A.handled = none) (hl : z.heap.IsTuple l items) (hit : IntsAre items.toList ns) (hb : ns.length + 1 < scanBound)
    (q : ∀ (h' : Heap) (tk c : Nat), SetR w h' z.heap.objs.size (fun j => decide (j ∈ ns)) c → c ≤ ns.length → (∀ b o, z.heap.get? b = some o → h'.get? b = some o) → Q (.ref z.heap.objs.size) { z with heap := h', toks := tk }) :
    wpAny (model P w) A (call (.type "set") [.ref l]) Q E z := by
  obtain ⟨c0, t0, mro0⟩ := F.called_set.mro
  have m1 := F.called_set.made
  have m2 := F.called_set.sub
  have m3 := F.called_set.notType
  have m4 := F.called_set.canCreate
  have m5 := F.typeCall_set_1 (.ref l)
  have ll : l < z.heap.objs.size := by
    obtain ⟨o, ho, _⟩ := id hl
    exact Heap.lt_size ho
  refine wpAny_call (codeAny_of_tree ?_)
  show wpAny _ _ (callAny (.type "set") _) _ _ _
  refine wpAny_pure ⟨Code.quiet_builtin _ (by decide +kernel), codeAny_builtin F.entry_type_call ?_⟩
  rw [Around.under_plain (weight_type_call_type "set" [.ref l] []) rfl]
  repeat any_goals first | assumption | wp_step
  have new1 : (z.heap.push (eS w)).get? z.heap.objs.size = some (eS w) := Heap.get?_push_size _ rfl
  refine codeAny_mono (code_set_led1 (.ref l) (E := E) (Q₁ := fun v y => v = .ref z.heap.objs.size ∧ y = { z with heap := z.heap.push (eS w) }) ⟨rfl, rfl⟩) fun r y hr => ?_
  cases r with
  | error e => exact hr
  | ok fl =>
    cases fl with
    | ret v =>
      obtain ⟨rfl, rfl⟩ := hr
      have hT : Shared.TypeIs { z with heap := z.heap.push (eS w) } (.ref z.heap.objs.size) "set" := ⟨_, new1, rfl⟩
      have i1 := F.called_set.init.lookup
      have i2 := F.called_set.init.bind (.ref z.heap.objs.size)
      repeat any_goals first | assumption | wp_step
      refine init_overT (A := A.in1) (z := { z with heap := z.heap.push (eS w) }) (D := z.heap.objs.size) (by simp [hh]) new1 (hl.push _) hit hb (Nat.ne_of_lt ll) fun h' tk c S hc k => ?_
      show wpAny _ _ (pure (some Value.none)) _ _ _
      repeat any_goals first | assumption | wp_step
      exact q h' tk c S hc fun b o e => k b o (Nat.ne_of_lt (Heap.lt_size e)) (Heap.get?_push_of_some _ e)
    | _ => exact hr.elim
end
section
variable {X : Cx}
/-- set(xs) -/
def rSetTI (K : PySem.W.Frag) (w : World) : List V → Hp → VK → Prop := fun xs H Q => ∃ (l : Addr) (ns : List Int), xs = [V.ref l] ∧ SqT K H l (ns.map V.int) ∧ ns.length ≤ 1000 ∧ ∀ p n, n ≤ ns.length → H p = none → Q (.ref p) (upd H p (SetO w p (fun j => decide (j ∈ ns)) n))
theorem cr_setTI (hc : X.calm = true) : CallR X (.type "set") (rSetTI X.K X.w) := by
  intro pins s σ H xs us Q I r h
  obtain ⟨l, ns, rfl, hl, h1, q⟩ := h
  obtain ⟨its, rv, pl, _⟩ := I.tuple hl
  rw [Vals.ref1 r]
  refine set_overT (I.ok.hd hc) pl (ns := ns) (by simpa using rv.ints) (by unfold scanBound; omega) fun h' tk c R hc k => ?_
  exact ⟨.ref _, upd H s.heap.objs.size (SetO X.w s.heap.objs.size (fun j => decide (j ∈ ns)) c), I.laid (t' := tk) k (Nat.le_refl _) (setO_new R), rfl, q _ c hc (I.hok.fresh (Nat.le_refl _))⟩
end
end L2

set_option Elab.async false
set_option linter.all false
set_option maxRecDepth 100000
set_option maxHeartbeats 4000000
/-! t > u, both tuples of ints -/
namespace L2
open PySem PySem.Spec PyProof.Rows
abbrev gtB (ns ms : List Int) : Bool := Ob.lexAt (fun j => decide (ns.getD j 0 = ms.getD j 0)) (fun j => decide (ms.getD j 0 < ns.getD j 0)) (decide (ms.length < ns.length)) 0 (min ns.length ms.length)
def rGtT (K : PySem.W.Frag) : R2 := fun x y H Q => ∃ (t1 t2 : Addr) (ns ms : List Int), (x = .ref t1 ∧ y = .ref t2) ∧ (SqT K H t1 (ns.map V.int) ∧ SqT K H t2 (ms.map V.int)) ∧ Q (.bl (gtB ns ms)) H
theorem op_gtT {X : Cx} (few : X.A.units < cLine) : OpR X (compareOp .Gt) (rGtT X.K) := by
  rintro pins s σ H x y v u Q I rx ry ⟨t1, t2, ns, ms, ⟨rfl, rfl⟩, ⟨h1, h2⟩, q⟩
  cases rx; cases ry
  obtain ⟨us, va, pa, _⟩ := I.tuple h1
  obtain ⟨ws, vb, pb, _⟩ := I.tuple h2
  have item : ∀ {zs : List Value} {ks : List Int}, IntsAre zs ks → ∀ j (h : j < zs.toArray.size), ∃ t, zs.toArray[j] = .int (ks.getD j 0) t := fun ii j h =>
    PyProof.Rows.IntsAre.int_at ii _ _ (by simp at h; simp [h])
  have size : ∀ {zs : List Value} {ks : List Int}, IntsAre zs ks → zs.toArray.size = ks.length := fun ii => by rw [List.size_toArray]; exact ii.length
  have beq : ∀ a b : Int, decide (a = b) = (a == b) := fun a b => by
    by_cases c : a = b
    · subst c; simp
    · rw [decide_eq_false c]; exact (beq_eq_false_iff_ne.mpr c).symm
  have main := Ob.RcOp.tuples_gt (A := X.A) (s := s) (e := fun j => decide (ns.getD j 0 = ms.getD j 0)) (r := fun j => decide (ms.getD j 0 < ns.getD j 0)) pa pb few
    (fun j i1 i2 => by
      obtain ⟨k1, g1⟩ := item va.ints j i1
      obtain ⟨k2, g2⟩ := item vb.ints j i2
      rw [g1, g2, beq]
      exact SeqAt.EqAt.int_int _ _ _ _)
    (fun j i1 i2 _ => by
      obtain ⟨k1, g1⟩ := item va.ints j i1
      obtain ⟨k2, g2⟩ := item vb.ints j i2
      rw [g1, g2]
      exact Ob.RcOp.gt_int _ _ _ _)
  rw [size va.ints, size vb.ints] at main
  exact main X.prog X.w X.xe (EP X pins σ Q) ⟨.bl _, H, I, rfl, q⟩
end L2

set_option Elab.async false
set_option linter.all false
set_option maxRecDepth 100000
set_option maxHeartbeats 4000000
/-! sorted(xs), xs a list of tuples of ints, the first of which has no item -/
namespace PySem.W
open PySem PySem.Calls PyProof.Rows PySem.SeqAt
section
variable {prog : Program} {w : World} {A : Around} {E : Value → Shared → Prop} {s : Shared}
theorem call_tuple_ltZ {Q : Value → Shared → Prop} {l b : Addr} {items items2 : Array Value} {e r : Nat → Bool} (hl : s.heap.IsTuple l items) (hb : s.heap.IsTuple b items2)
    (he : ∀ j (h1 : j < items.size) (h2 : j < items2.size), EqAt A.in1 s items[j] items2[j] (e j)) (hr : ∀ j (h1 : j < items.size) (h2 : j < items2.size), e j = false → RcLt A.in1 s items[j] items2[j] (r j))
    (h : Q (.bool (firstLt e r (decide (items.size < items2.size)) (List.range (min items.size items2.size)))) s) : wpAny (model prog w) A (call (.builtin "tuple.__lt__") [.ref l, .ref b]) Q E s := by
  obtain ⟨⟨cls, dd, data, sl⟩, ho, hc, n, hd⟩ := id hl
  obtain ⟨⟨cls2, dd2, data2, sl2⟩, ho2, hc2, n2, hd2⟩ := id hb
  simp only at hc hd hc2 hd2
  subst hc hd hc2 hd2
  exact call_meets F.slot_tuple_lt ⟨_, ho, rfl⟩ F.entry_tuple_lt (F.args_tuple_lt_2 _ _) (tuple_ltAt l b items items2 n n2 dd dd2 sl sl2 e r) ⟨ho, ho2, he, hr, h⟩
theorem oneLt_tupZ {xs ys : List PyData} {a b : Value} {as bs : List Addr} {Q : Bool → Shared → Prop} (ra : Reads s.heap a (.tuple xs) as) (rb : Reads s.heap b (.tuple ys) bs) (hal : alikeAll xs ys = true)
    (hu : A.units + min (PyData.tuple xs).depth (PyData.tuple ys).depth < cLine) (hq : Q (dataLt (.tuple xs) (.tuple ys)) s) : wpAny (model prog w) A (oneLt' true a b) Q E s := by
  cases ra with
  | @tuple l o vs n _ as₁ h1 h2 h3 h4 =>
    cases rb with
    | @tuple l' o' vs' n' _ bs₁ k1 k2 k3 k4 =>
      have n1 : vs.size = xs.length := by simpa using ReadsAll.length _ _ _ h4
      have n2 : vs'.size = ys.length := by simpa using ReadsAll.length _ _ _ k4
      rw [dataLt_tuple, ← firstLt_toks xs ys hal, ← n1, ← n2] at hq
      rw [oneLt'_eq]
      simp only [if_true]
      refine wpAny_bind (wpAny_cRoomFor (room_here hu) ?_)
      refine wpAny_bind (wpAny_callSpecialIfBound?_slot (T := "tuple") ⟨_, h1, h2⟩ F.slot_tuple_lt (call_tuple_ltZ (e := pairEq xs ys) (r := fun j => dataLt (xs.getD j .none) (ys.getD j .none)) ⟨_, h1, h2, _, h3⟩ ⟨_, k1, k2, _, k3⟩ (fun j j1 j2 => ?_) (fun j j1 j2 hj => ?_) ?_))
      · have := eqAt_alikeAll xs ys A.in1 s vs.toList vs'.toList _ _ h4 k4 hal (room_in hu) j (by simpa using j1) (by simpa using j2)
        simpa using this
      · have := rcLt_alikeAll xs ys A.in1 s vs.toList vs'.toList _ _ h4 k4 hal (room_in hu) j (by simpa using j1) (by simpa using j2) hj
        simpa using this
      · exact wpAny_truthy_bool hq
end
section
variable {M : Model} {A : Around} {E : Value → Shared → Prop} {s : Shared}
def TupAt (h : Heap) (v : Value) (xs : Array Value) : Prop := ∃ a o n, v = .ref a ∧ h.get? a = some o ∧ o.cls = .type "tuple" ∧ o.data = .seq xs n
theorem first_tupZ {v : Value} {xs : Array Value} {Q : Option Value → Shared → Prop} (t : TupAt s.heap v xs) (h : Q xs[0]? s) : wpAny M A (firstOfTuple' v) Q E s := by
  obtain ⟨a, o, n, rfl, ho, hc, hd⟩ := t
  rw [kas_first_eq]
  refine wpAny_bind (Looks.here (show Looks M s.heap (typeOf (.ref a)) o.cls from (Looks.ld ho).andThen .now) ?_)
  rw [hc, if_neg (by first | decide | simp)]
  exact wpAny_bind (listItems_at ho hd (wpAny_pure h))
theorem firsts_anyZ : ∀ (vs : List Value), (∀ v ∈ vs, ∃ xs, TupAt s.heap v xs) → ∃ rs : List (Option Value), ∀ {Q : List (Option Value) → Shared → Prop}, Q rs s → wpAny M A (vs.mapM firstOfTuple') Q E s
  | [], _ => ⟨[], fun h => by rw [List.mapM_nil]; exact wpAny_pure h⟩
  | v :: vs, t => by
    obtain ⟨xs, hx⟩ := t v (.head _)
    obtain ⟨rs, hr⟩ := firsts_anyZ vs fun v hv => t v (.tail _ hv)
    refine ⟨xs[0]? :: rs, fun {Q} h => ?_⟩
    rw [List.mapM_cons]
    exact wpAny_bind (first_tupZ hx (wpAny_bind (hr (Q := fun bs s' => wpAny M A (pure (xs[0]? :: bs)) Q E s') (wpAny_pure h))))
theorem kind_tupZ {v₁ : Value} {rest : List Value} {Q : SortKind → Shared → Prop} (h1 : TupAt s.heap v₁ #[]) (hT : ∀ v ∈ rest, ∃ xs, TupAt s.heap v xs) (h : Q oneType' s) : wpAny M A (keyKind' (v₁ :: rest).toArray) Q E s := by
  obtain ⟨rs, hr⟩ := firsts_anyZ (M := M) (A := A) (E := E) rest hT
  rw [keyKind'_eq, List.mapM_toArray, map_eq_pure_bind]
  refine wpAny_bind (wpAny_bind ?_)
  rw [List.mapM_cons]
  refine wpAny_bind (first_tupZ h1 (wpAny_bind (hr ?_)))
  refine wpAny_pure (wpAny_pure ?_)
  rw [if_neg (by simp), if_neg (by simp)]
  rw [oneTypeOnly'_eq, List.mapM_toArray, map_eq_pure_bind]
  have hty : ∀ v ∈ v₁ :: rest, ∀ (Q' : Value → Shared → Prop), Q' (.type "tuple") s → wpAny M A (typeOf v) Q' E s := fun v hv Q' hq => by
    have ht : ∃ xs, TupAt s.heap v xs := by
      rcases List.mem_cons.mp hv with rfl | hv
      · exact ⟨_, h1⟩
      · exact hT v hv
    obtain ⟨xs, a, o, n, rfl, ho, hc, hd⟩ := ht
    refine Looks.here (show Looks M s.heap (typeOf (.ref a)) o.cls from (Looks.ld ho).andThen .now) ?_
    rw [hc]
    exact hq
  refine wpAny_bind (wpAny_bind (wpAny_bind (kas_mapM (r := .type "tuple") _ hty (wpAny_pure ?_))))
  have hall : ((List.map (fun _ => Value.type "tuple") (v₁ :: rest)).toArray.all fun x => x == Value.type "tuple") = true := by
    simp only [List.all_toArray, List.all_map, List.all_eq_true]
    intro _ _
    rfl
  have h0 : (List.map (fun _ => Value.type "tuple") (v₁ :: rest)).toArray[0]? = some (Value.type "tuple") := by simp
  rw [h0]
  simp only [hall, if_true]
  exact wpAny_pure (wpAny_pure h)
end
section
variable {prog : Program} {w : World} {A : Around} {E : Value → Shared → Prop} {s : Shared}
theorem reads_tupZ {v : Value} {r : List PyData} {as : List Addr} (h : Reads s.heap v (.tuple r) as) : ∃ xs, TupAt s.heap v xs := by
  cases h with
  | @tuple l o vs n _ as₁ h1 h2 h3 h4 => exact ⟨_, l, o, n, rfl, h1, h2, h3⟩
theorem reads_tup0Z {v : Value} {as : List Addr} (h : Reads s.heap v (.tuple []) as) : TupAt s.heap v #[] := by
  cases h with
  | @tuple l o vs n _ as₁ h1 h2 h3 h4 =>
    have n1 : vs.size = 0 := by simpa using ReadsAll.length _ _ _ h4
    obtain rfl : vs = #[] := Array.eq_empty_of_size_eq_zero n1
    exact ⟨l, o, n, rfl, h1, h2, h3⟩
theorem SortsAt.tupZ {vs : List Value} {ds : List PyData} (e : EachIs (fun v d => ∃ as, Reads s.heap v d as) vs (.tuple [] :: ds)) (hal : AllAlike (.tuple [] :: ds)) (ht : ∀ d, d ∈ ds → ∃ r, d = .tuple r) (hu : ∀ d, d ∈ PyData.tuple [] :: ds → A.units + d.depth < cLine) :
    SortsAt prog w A s (dataKind s.heap (.tuple [] :: ds)) vs := by
  have ht2 : ∀ d, d ∈ PyData.tuple [] :: ds → ∃ r, d = .tuple r := fun d hd => by
    rcases List.mem_cons.mp hd with rfl | hd
    · exact ⟨_, rfl⟩
    · exact ht d hd
  refine ⟨fun v hv => ?_, oneType', ?_, fun h2 E Q hq => ?_⟩
  · obtain ⟨d, hd, as, r⟩ := e.left v hv
    exact ⟨_, dataKind_some hal hd r⟩
  · intro E x y a b Q ha hb hq
    obtain ⟨d, as, hd, ra, rfl⟩ := dataKind_inv ha
    obtain ⟨d', as', hd', rb, rfl⟩ := dataKind_inv hb
    have hdd := hal d hd d' hd'
    have hroom : A.units + min d.depth d'.depth < cLine := Nat.lt_of_le_of_lt (Nat.add_le_add_left (Nat.min_le_left _ _) _) (hu d hd)
    obtain ⟨r1, rfl⟩ := ht2 d hd
    obtain ⟨r2, rfl⟩ := ht2 d' hd'
    rw [keyLt'_oneType]
    exact oneLt_tupZ ra rb (by simpa [alike] using hdd) hroom hq
  · cases e with
    | @cons v₁ _ vs _ r1 r2 =>
      obtain ⟨as, r1⟩ := r1
      refine kind_tupZ (reads_tup0Z r1) (fun v hv => ?_) hq
      obtain ⟨d, hd, as, r⟩ := r2.left v hv
      obtain ⟨r', rfl⟩ := ht d hd
      exact reads_tupZ r
end
end PySem.W
namespace PySem.W
open PySem PySem.Calls PyProof.Rows PySem.SeqAt
section
variable {prog : Program} {w : World} {A : Around} {E : Value → Shared → Prop} {s : Shared} {β : Type} {R : Value → β → Prop} {enc : β → PyData} {b0 : β} {bs : List β} {vs : List Value}
theorem sorted_tupZ {l : Addr} {Q : Value → Shared → Prop} (h0 : enc b0 = .tuple []) (ht : ∀ b, b ∈ bs → ∃ r, enc b = .tuple r) (hl : s.heap.IsList l vs.toArray) (e : EachIs R vs (b0 :: bs)) (er : EachIs (fun v b => ∃ as, Reads s.heap v (enc b) as) vs (b0 :: bs)) (hal : AllAlike ((b0 :: bs).map enc)) (hL : (b0 :: bs).length ≤ sizeLine)
    (hu : ∀ b, b ∈ b0 :: bs → A.units + 2 + (enc b).depth < cLine) (h : ∀ out, out.length = (b0 :: bs).length → EachIs R out ((b0 :: bs).mergeSort (dataLe false enc)) → Q (.ref (s.heap.objs.size + 1)) { s with heap := sortedAll s.heap vs (List.toArray out) }) :
    wpAny (model prog w) A (call (.builtin "sorted") [.ref l]) Q E s := by
  have er' : EachIs (fun v b => ∃ as, Reads (sortingHeap (copyHeap s.heap vs) (s.heap.objs.size + 1) vs) v (enc b) as) vs (b0 :: bs) := er.mono fun _ _ ⟨as, r⟩ => ⟨as, PyProof.Rows.Reads.keeps (fun _ _ => sorting_copy_old) r⟩
  have em := each_map (R := fun v d => ∃ as, Reads (sortingHeap (copyHeap s.heap vs) (s.heap.objs.size + 1) vs) v d as) enc er'
  have bm := bound_map (A := A.in1.in1) (enc := enc) (bs := b0 :: bs) hu
  have hal2 := hal
  rw [List.map_cons, h0] at em bm hal2
  refine sorted_vals (κ := dataKind (sortingHeap (copyHeap s.heap vs) (s.heap.objs.size + 1) vs) ((b0 :: bs).map enc)) hl ?_ (by rw [e.length]; exact hL) (h _ (by rw [sortVals_length false rfl]; exact e.length) (sortVals_data false e er' hal))
  rw [List.map_cons, h0]
  refine SortsAt.tupZ (s := { s with heap := sortingHeap (copyHeap s.heap vs) (s.heap.objs.size + 1) vs }) em hal2 (fun d hd => ?_) bm
  obtain ⟨b, hb, rfl⟩ := List.mem_map.mp hd
  exact ht b hb
end
end PySem.W
namespace L2
open PySem PySem.Spec PyProof.Rows PySem.W
section
variable {X : Cx} {pins : List (Addr × Obj)} {σ : St} {H : Hp} {s : Shared}
/-- sorted(xs): the items ascending as tuples are -/
def rSortT0 (K : PySem.W.Frag) : List V → Hp → VK → Prop := fun vs H Q => ∃ (a : Addr) (xs : List V) (bs : List (List Int)), vs = [V.ref a] ∧ SqL K H a xs ∧ Paired (TupI K H) xs ([] :: bs) ∧
  ∀ (ys : List V) (p : Addr), Paired (TupI K H) ys (([] :: bs).mergeSort fun p q => decide (p ≤ q)) → H p = none → Q (.ref p) (upd H p (.lst ys))
theorem cr_sortT0 (hu : X.A.units + 65 < cLine) : CallR X (.builtin "sorted") (rSortT0 X.K) := by
  intro pins s σ H vs us Q I r h
  obtain ⟨a, xs, bs, rfl, hs, hp, q⟩ := h
  obtain ⟨its, rv, hl, hz⟩ := I.list hs
  rw [Vals.ref1 r]
  have e0 : EachIs (TupV X.K H) its ([] :: bs) := tupV_of hp rv
  have hlen : ([] :: bs).length = xs.length := (Paired.length hp).symm
  refine sorted_tupZ (A := X.A) (R := TupV X.K H) (enc := tupE) rfl (fun b _ => ⟨_, rfl⟩) hl.isList e0 (e0.mono fun u ns h => tupV_reads I h) (AllAlike.of fun b b' => by simp [alike, alike_ints]) (by rw [hlen]; exact hz) (fun b _ => ?_) fun out ho eo => ?_
  · have : (tupE b).depth ≤ 1 := by simp [PyData.depth, depth_ints]
    omega
  · rw [tupE_le] at eo
    obtain ⟨e1, e2⟩ := tupV_to eo
    obtain ⟨ep, he'⟩ := PyProof.Rows.sortedAll_at s.heap its out.toArray
    have hz2 : (out.map bkV).length ≤ sizeLine := by
      rw [List.length_map, ho, hlen]
      exact hz
    exact ⟨.ref _, upd H (s.heap.objs.size + 1) (.lst (out.map bkV)), I.laid (t' := s.toks) (fun _ _ => PyProof.Rows.sortedAll_old) (Nat.le_succ _) ⟨hz2, out, ep, bkV_vals e2, he'⟩, rfl, q _ _ e1 (I.hok.fresh (Nat.le_succ _))⟩
end
end L2

set_option Elab.async false
set_option linter.all false
set_option maxRecDepth 100000
set_option maxHeartbeats 4000000
/-! o.m(e, .., k = v, ..); an expression read in one of two ways -/
namespace L2
open PySem PySem.Spec PyProof.Rows PySem.W
/-- a method with keywords -/
def tMethN (C : Addr) (m : Str) (n j : Nat) (sp : Sp) (gV : List V → List V → List V) (E : XK) (ta : TE) (t tk : TA) : TE := fun σ H Q => ta σ H fun x H1 => ∃ a dx fs, x = .ref a ∧ H1 a = some (.ins C dx fs) ∧ fs.lookup m = none ∧
  t σ H1 fun vs H2 => tk σ H2 fun zs H3 => vs.length = n ∧ zs.length = j ∧ sp (gV (x :: vs) zs) H3 Q E
section
variable {X : Cx} {CX : CXT} {k n : Nat} {f C : Addr} {fd : FuncData} {ps ks : List Str} {sp : Sp} {E : XK} {m : Str} {pos apos : Pos} {e o : Expr} {es : List Expr} {kws : List Keyword} {ta : TE} {t tk : TA} {g : List Value → List Value → List Value} {gV : List V → List V → List V}
theorem pe_methN {pl : Sem Bool} (he : PE X o ta) (c : Cls X.K C) (hm : Meth X.K C m f) (F : FnOk X.prog X.w X.K X.mg X.base CX k f fd ps sp) (hr : Room k X.A) (hb : KBn X.K fd ps (n + 1) ks g gV) (hx : Passes CX X E) (ha : PA X (e :: es) t) (hkw : PK X kws tk)
    (hall : (backToKw pos (keywordEach kws X.env)).all (·.1.isSome) = true := by rfl) (hks : (backToKw pos (keywordEach kws X.env)).filterMap (·.1) = ks := by rfl)
    (hst : starEach (e :: es) X.env = (false, eval e X.env) :: starEach es X.env := by rfl) (hpl : ((backTo pos (starEach (e :: es) X.env)).any (·.1) || (backToKw pos (keywordEach kws X.env)).any (·.1.isNone)) = false := by rfl)
    (ht : eval (.Call (.Attribute o m apos) (e :: es) kws pos) X.env = (do
      let ov ← eval o X.env
      standAt apos.atName
      let (f, first) ← holding [ov] (getMethod ov m pl)
      callWith pos f first (backTo pos (starEach (e :: es) X.env)) (backToKw pos (keywordEach kws X.env))) := by rfl) :
    PE X (.Call (.Attribute o m apos) (e :: es) kws pos) (tMethN C m n ks.length sp gV E ta t tk) := by
  refine ⟨fun pins s σ H Q I h => ?_⟩
  refine PySem.W.methodCall_KW (pl := pl) (thn (he.run pins s σ H _ I h) fun u s1 ⟨x, H1, I1, rx, a, dx, fs, ex, ea, l, q⟩ => ?_) ht
  subst ex
  obtain rfl : u = Value.ref a := rx
  refine getmeth_ok I1 ea c hm l ?_
  refine PySem.W.callWith_KW (first := [.ref a]) (h₀ := X.base) I.ok.mod.kin hm.kp hall (thn (ha.run pos pins s1 σ H1 _ I1 q) fun us s2 ⟨vs, H2, I2, r, q2⟩ => ?_) hpl hst
  refine thn (hkw.run pos pins s2 σ H2 _ I2 q2) fun ws s3 ⟨zs, H3, I3, rz, l1, l2, q3⟩ => ⟨I3.kIn, ?_⟩
  rw [hks]
  exact run_fnN (us := .ref a :: us) (vs := .ref a :: vs) F hr hb hx I3 (.cons rfl r) rz (by rw [List.length_cons, l1]) l2 q3
/-- an expression that may be read in two ways -/
theorem pe_two {a : Expr} {t1 t2 : TE} (h1 : PE X a t1) (h2 : PE X a t2) : PE X a (fun σ H Q => t1 σ H Q ∨ t2 σ H Q) :=
  ⟨fun pins s σ H Q I h => h.elim (h1.run pins s σ H Q I) (h2.run pins s σ H Q I)⟩
end
end L2

set_option Elab.async false
set_option linter.all false
set_option maxRecDepth 100000
set_option maxHeartbeats 4000000
/-! zip over two tuples, as a walk; != of own objects of two classes -/
namespace L2
open PySem PySem.Spec PyProof.Rows
theorem walk_zipT {K : PySem.W.Frag} {a b : Addr} {xs ys : List V} {n : Nat} (hn : n = min xs.length ys.length) : Walk (RZ.ItzT K a b) n (fun H => SqT K H a xs ∧ SqT K H b ys) (YPair (fun i => xs[i]?) (fun i => ys[i]?)) := by
  subst hn
  refine ⟨fun i _ hi q => ?_, fun _ q => ⟨xs, ys, q.1, q.2, by omega⟩, fun i H v H' _ q y => ?_⟩
  · have h1 : i < xs.length := by omega
    have h2 : i < ys.length := by omega
    exact ⟨xs, ys, xs[i], ys[i], q.1, q.2, by simp [h1], by simp [h2]⟩
  · obtain ⟨T, x, z, h1, h2, h3, h4, h5⟩ := y
    exact ⟨T, x, z, h1, h2, h3, h4 xs q.1, h5 ys q.2⟩
end L2
namespace Tw
open PySem PySem.Spec PyProof.Rows L2
open PySem.W (InstAt looks_findIn looks_subIn ifBound_K cmp_K)
section
variable {X : Cx} {CX : CXT} {k : Nat} {f C D : Addr} {fd : FuncData} {ps : List Str} {sp : Sp} {E : XK}
/-- != where the other one is an object of another class -/
def rNeD (C D : Addr) (sp : Sp) (E : XK) : R2 := fun x y H Q =>
  ∃ a dx fs b dy gs, x = .ref a ∧ H a = some (.ins C dx fs) ∧ y = .ref b ∧ H b = some (.ins D dy gs) ∧ sp [.ref a, y] H (fun v H' => ∃ r, v = .bl r ∧ Q (.bl (!r)) H') E
theorem op_ne_two (c : EqC X.K C f) (hd : PySem.W.notFirst X.K C (.ref D) = true) (F : FnOk X.prog X.w X.K X.mg X.base CX k f fd ps sp) (hr : Room (k + 1) X.A) (hb : Binds X.K fd ps []) (hx : Passes CX X E) : OpR X (compareOp .NotEq) (rNeD C D sp E) := by
  intro pins s σ H x y v u Q I rx ry ⟨a, dx, fs, b, dy, gs, ex, ha, ey, hb2, q⟩
  subst ex
  subst ey
  obtain rfl : v = Value.ref a := rx
  obtain rfl : u = Value.ref b := ry
  obtain ⟨mA, O, rr, _, _, _⟩ := ins_get I.hok ha
  obtain ⟨od, J, hl⟩ := O.look
  obtain ⟨mB, OB, rrB, _, _, _⟩ := ins_get I.hok hb2
  obtain ⟨odB, JB, hlB⟩ := OB.look
  obtain ⟨m0, hF⟩ := I.fr
  show wpAny _ _ (richCompare .NotEq (.ref a) (.ref b)) _ _ _
  refine ne_K (Room.units0 hr.in1) hr.units0 hF I.ok.mod.kin J JB.type hd c (thn (run_sub F (Sub.in1 ⟨hr, rfl⟩) hb hx I (.cons (relR a) (.cons (relR b) .nil)) q) fun r s' ⟨z, H', I', rz, b2, ez, q'⟩ => ?_)
  subst ez
  exact ⟨b2, rz, _, H', I', relB (!b2), q'⟩
end
end Tw

set_option Elab.async false
set_option linter.all false
set_option maxRecDepth 100000
set_option maxHeartbeats 2000000
/-! own rules: xs.count(k), t.count(k) (whole numbers); sum(d.values()) -/
namespace L2
open PySem PySem.Spec PyProof.Rows L2
theorem plain_ints : ∀ ns : List Int, PyData.plainAll (ns.map PyData.int) = true
  | [] => rfl
  | n :: ns => by
    simp only [List.map_cons, PyData.plainAll, plain_ints ns]
    rfl
theorem count_ints (k : Int) : ∀ ns : List Int, (ns.map PyData.int).countP (fun y => PyData.eqv y (.int k)) = ns.count k
  | [] => rfl
  | n :: ns => by
    rw [List.map_cons, List.countP_cons, count_ints k ns, List.count_cons]
    have e : PyData.eqv (.int n) (.int k) = (n == k) := rfl
    rw [e]
theorem dpAll_ints (K : PySem.W.Frag) (H : Hp) : ∀ ns : List Int, DpAll K H (ns.map V.int) (ns.map PyData.int)
  | [] => .nil
  | n :: ns => .cons (.int n) (dpAll_ints K H ns)
section
variable {X : Cx}
def rCountL (K : PySem.W.Frag) : V → List V → Hp → VK → Prop := fun x vs H Q => ∃ (a : Addr) (ns : List Int) (k : Int), x = .ref a ∧ vs = [.int k] ∧ SqL K H a (ns.map V.int) ∧ Q (.int (ns.count k : Nat)) H
def rCountT (K : PySem.W.Frag) : V → List V → Hp → VK → Prop := fun x vs H Q => ∃ (a : Addr) (ns : List Int) (k : Int), x = .ref a ∧ vs = [.int k] ∧ SqT K H a (ns.map V.int) ∧ Q (.int (ns.count k : Nat)) H
theorem mt_countL (hu : X.A.units + 65 < cLine) : MtR X "list.count" (rCountL X.K) := by
  intro pins s σ H x xs v us Q I rx rxs h
  obtain ⟨a, ns, k, rfl, rfl, hl, q⟩ := h
  cases rx
  cases rxs with
  | cons ry rt =>
    rename_i uy ut
    cases rt
    obtain ⟨its, rv, pl, hlen⟩ := I.list hl
    obtain ⟨as, h4⟩ := Dp.readsAll I (ns.map PyData.int) _ its (dpAll_ints _ _ ns) rv
    obtain ⟨bs, r1⟩ := Dp.reads I (.int k) _ uy (.int k) ry
    refine PySem.SeqAt.count_list_data (xs := ns.map PyData.int) (d := .int k) pl.isList h4 r1 (plain_ints ns) rfl (Nat.lt_of_le_of_lt (Nat.add_le_add_left (Nat.min_le_right _ _) _) (by simp only [PyData.depth]; omega)) ?_
    rw [count_ints]
    exact ⟨.int _, H, I.tok _, ⟨_, rfl⟩, q⟩
theorem mt_countT (hu : X.A.units + 65 < cLine) : MtR X "tuple.count" (rCountT X.K) := by
  intro pins s σ H x xs v us Q I rx rxs h
  obtain ⟨a, ns, k, rfl, rfl, hl, q⟩ := h
  cases rx
  cases rxs with
  | cons ry rt =>
    rename_i uy ut
    cases rt
    obtain ⟨its, rv, pl, hlen⟩ := I.tuple hl
    obtain ⟨as, h4⟩ := Dp.readsAll I (ns.map PyData.int) _ its (dpAll_ints _ _ ns) rv
    obtain ⟨bs, r1⟩ := Dp.reads I (.int k) _ uy (.int k) ry
    refine PySem.SeqAt.count_tuple_data (xs := ns.map PyData.int) (d := .int k) pl h4 r1 (plain_ints ns) rfl (Nat.lt_of_le_of_lt (Nat.add_le_add_left (Nat.min_le_right _ _) _) (by simp only [PyData.depth]; omega)) ?_
    rw [count_ints]
    exact ⟨.int _, H, I.tok _, ⟨_, rfl⟩, q⟩
theorem preSum_list : ∀ (is : List Int) (n : Nat), preSum (fun i => is.getD i 0) n = (is.take n).sum := by
  intro is n
  induction n with
  | zero => rfl
  | succ n ih =>
    rw [preSum, ih]
    by_cases h : n < is.length
    · rw [← List.take_append_getElem h, List.sum_append, List.getD_eq_getElem?_getD, List.getElem?_eq_getElem h]
      simp
    · rw [List.take_of_length_le (by omega), List.take_of_length_le (by omega), List.getD_eq_getElem?_getD, List.getElem?_eq_none (by omega)]
      simp
/-- sum(o.values()), a dict with int values -/
def tSumVals (td : TE) : TE := fun σ H Q => td σ H fun x H1 => ∃ (a : Addr) (kvs : List (Key × V)) (is : List Int), x = V.ref a ∧ H1 a = some (.dK kvs) ∧ kvs.map (·.2) = is.map V.int ∧ Q (.int is.sum) H1
variable {o : Expr} {p pos apos mpos : Pos} {td : TE}
theorem pe_sumVals (hc : X.calm = true) (hg : Gl X "sum") (hm : X.mg "sum" = none) (hd : PE X o td) (hbase : attributeBase o "values" X.env (eval o X.env) = eval o X.env := by rfl) (hline : (apos.endLine == mpos.line) = true := by rfl)
    (hse : starEach [Expr.Call (.Attribute o "values" apos) [] [] mpos] X.env = [(false, eval (Expr.Call (.Attribute o "values" apos) [] [] mpos) X.env)] := by rfl) :
    PE X (.Call (.Name "sum" p) [.Call (.Attribute o "values" apos) [] [] mpos] [] pos) (tSumVals td) := by
  refine ⟨fun pins s σ H Q I h => ?_⟩
  refine wpAny_Call_Name_kw (ld_blt I hg hm (u := .builtin "sum") (by first | rfl | decide +kernel) ?_ (by first | decide +kernel | decide) (by first | decide +kernel | decide))
  rw [hse]
  refine PySem.callWith_builtin1 (wpAny_Call_method0_late hbase hline (thn (hd.run pins s σ H _ I h) fun v s1 ⟨x, H1, I1, r1, a, kvs, is, ex, ha, hv, q⟩ => ?_))
  subst ex
  obtain rfl : v = Value.ref a := r1
  obtain ⟨_, hsys, vs, rel, dof⟩ := dk_of I1.hok ha
  obtain ⟨ep, dat⟩ := dof.dictAt
  have dat' := dat
  obtain ⟨ob, es, ho, ex, hdat, hko, hpr, hnd⟩ := dat'
  refine ⟨"dict", "dict.values", F.plainAttrs_dict, F.slot_dict_values, F.type_dict_values, ⟨ob, ho, ex.1⟩, fun b e => ?_, Calls.callWith_builtin rfl (PySem.evalArgs_none ?_)⟩
  · cases e
    exact ⟨ob, ho, ex.2.1⟩
  refine call_meetsIn F.slot_dict_values ⟨ob, ho, ex.1⟩ F.entry_dict_values (F.args_dict_values_1 _) (meets_dict_values (mixKind X.prog X.w) a hsys) ⟨⟨vs, dof⟩, ?_⟩
  have k1 : ∀ b u, s1.heap.get? b = some u → (s1.heap.push { cls := .type "dict_values", data := .fields #[.ref a] }).get? b = some u := fun b u e => Heap.get?_push_of_some _ e
  have dat1 : (s1.heap.push { cls := .type "dict_values", data := .fields #[.ref a] }).DictAt (mixKind X.prog X.w) a vs ep := dat.keep k1
  have hlv : vs.length = is.length := by
    have e1 := congrArg List.length hv
    rw [List.length_map, List.length_map] at e1
    rw [← e1]
    exact (KV.length rel).symm
  have hval : ∀ (i : Nat) (v : Value), (∃ k, vs[i]? = some (k, v)) → ∃ t, v = Value.int (is.getD i 0) t := fun i v ⟨k, hk⟩ => by
    obtain ⟨x, h1, h2⟩ := KV.at' rel hk
    have e1 : (kvs.map (·.2))[i]? = some x := by rw [List.getElem?_map, h1] <;> rfl
    rw [hv, List.getElem?_map] at e1
    obtain ⟨j, hj, e2⟩ := Option.map_eq_some_iff.mp e1
    subst e2
    obtain ⟨t, e3⟩ := h2
    refine ⟨t, ?_⟩
    rw [e3, List.getD_eq_getElem?_getD, hj] <;> rfl
  refine call_sum_walkG (wpAny_pyIter_values (v := s1.heap.objs.size) (d := a) ⟨_, Heap.get?_push_size _ rfl, rfl, rfl⟩ dat1 ?_)
  have hlt : a < s1.heap.objs.size := Heap.lt_size ho
  have hsz : (s1.heap.push { cls := .type "dict_values", data := .fields #[.ref a] }).objs.size = s1.heap.objs.size + 1 := Heap.size_push _ _
  refine ⟨_, _, _, _, _, _, fun i => is.getD i 0, rfl, Walks.dictValues (knd := mixKind X.prog X.w) (A := X.A.in1) (I.ok.hd hc) (s1.heap.push { cls := .type "dict_values", data := .fields #[.ref a] }).objs.size a (by rw [hsz]; exact Nat.ne_of_lt (Nat.lt_succ_of_lt hlt)) vs ep,
    ⟨⟨_, Heap.get?_push_size _ rfl, rfl, rfl⟩, dat1.keep fun b u e => Heap.get?_push_of_some _ e⟩, fun b hb => ?_, hval, fun h' tk t' hk => ?_⟩
  · show b < ((s1.heap.push _).push _).objs.size
    rw [Heap.size_push, Heap.size_push]
    rw [hsz] at hb
    rcases List.mem_cons.mp hb with e | hb
    · rw [e]
      exact Nat.lt_succ_self _
    · have e : b = a := List.mem_singleton.mp hb
      rw [e]
      exact Nat.lt_succ_of_lt (Nat.lt_succ_of_lt hlt)
  · rw [preSum_list, hlv, List.take_length]
    refine ⟨.int _, H1, I1.kept (t' := tk) fun b u e => hk b u (fun hmem => ?_) (Heap.get?_push_of_some _ (k1 b u e)), ⟨t', rfl⟩, q⟩
    have e1 : b = (s1.heap.push { cls := .type "dict_values", data := .fields #[.ref a] }).objs.size := List.mem_singleton.mp hmem
    have e2 := Heap.lt_size e
    rw [hsz] at e1
    rw [e1] at e2
    exact absurd e2 (Nat.not_lt.mpr (Nat.le_succ _))
end
/-- a dict by a comprehension, over any walk -/
theorem dc_it {J : It} {n : Nat} {G : Hp → Prop} {Y : Nat → Hp → V → Hp → Prop} (w : Walk J n G Y) {g : TG} {tt : TT} {tk tv : TE} {vs : List Nat} {σ : St} {H1 : Hp} {D : Addr} {Qd : Hp → Prop} (Pv : Nat → Hp → Prop) (h0 : Pv 0 (upd H1 D (.dK []))) (hG : ∀ i H, i ≤ n → Pv i H → G H)
    (hs : ∀ i x H H', i < n → Pv i H → Y i H x H' → g x (wipe σ vs) H' fun σ2 H2 => wipe σ2 vs = wipe σ vs ∧ tt σ2 H2 fun b H3 =>
      if b = true then tk σ2 H3 fun y H4 => tv σ2 H4 fun z H5 => ∃ kvs k, y = kV k ∧ H5 D = some (.dK kvs) ∧ kvs.length < sizeLine ∧ Pv (i + 1) (upd H5 D (.dK (putK kvs k z))) else Pv (i + 1) H3) (hd : ∀ H, Pv n H → Qd H) :
    ∃ W : Nat → Nat → Hp → Prop, (∃ m, W 0 m (upd H1 D (.dK []))) ∧ ∀ i m H, W i m H →
      (J.stop i H ∧ Qd H) ∨ (J.go i H ∧ ∃ Nx : Hp → Prop, (∀ H', Nx H' → ∃ m', m' < m ∧ W (i + 1) m' H') ∧ ∀ x H', J.yld i H x H' → g x (wipe σ vs) H' fun σ2 H2 => wipe σ2 vs = wipe σ vs ∧ tt σ2 H2 fun b H3 =>
        if b = true then tk σ2 H3 fun y H4 => tv σ2 H4 fun z H5 => ∃ kvs k, y = kV k ∧ H5 D = some (.dK kvs) ∧ kvs.length < sizeLine ∧ Nx (upd H5 D (.dK (putK kvs k z))) else Nx H3) := by
  refine ⟨fun i m H => m = n - i ∧ i ≤ n ∧ Pv i H, ⟨n, by simp, Nat.zero_le _, h0⟩, ?_⟩
  rintro i m H ⟨rfl, hi, p⟩
  have q := hG i H hi p
  by_cases hlt : i < n
  · refine .inr ⟨w.goes i H hlt q, Pv (i + 1), fun H' p' => ⟨n - (i + 1), by omega, rfl, hlt, p'⟩, fun x H' y => hs i x H H' hlt p (w.yields i H x H' hlt q y)⟩
  · have e : i = n := by omega
    subst e
    exact .inl ⟨w.stops H q, hd H p⟩
/-- what stays while a thing is locked stays behind -/
theorem same_lock {H H' : Hp} {d : Addr} {u v : HO} (h : H d = some u) (s : Same (upd H d v) H') : Same H (upd H' d u) := fun b o e => by
  by_cases hb : b = d
  · subst hb
    rw [upd_same, ← h, e]
  · rw [upd_ne hb]
    exact s b o (by rw [upd_ne hb]; exact e)
theorem ite_b {b c : Bool} {A B : Prop} (h : b = c) (k : if c = true then A else B) : if b = true then A else B := h ▸ k
/-- set(xs), xs a list or a tuple of whole numbers -/
def rSetSq (K : PySem.W.Frag) (w : World) : List V → Hp → VK → Prop := fun xs H Q => ∃ (l : Addr) (ns : List Int), xs = [V.ref l] ∧ (SqL K H l (ns.map V.int) ∨ SqT K H l (ns.map V.int)) ∧ ns.length ≤ 1000 ∧ ∀ p n, n ≤ ns.length → H p = none → Q (.ref p) (upd H p (SetO w p (fun j => decide (j ∈ ns)) n))
theorem cr_setSq {X : Cx} (hc : X.calm = true) : CallR X (.type "set") (rSetSq X.K X.w) := by
  intro pins s σ H vs us Q I rv ⟨l, ns, e, h, hl, q⟩
  rcases h with h | h
  · exact cr_setLI hc pins s σ H vs us Q I rv ⟨l, ns, e, h, hl, q⟩
  · exact cr_setTI hc pins s σ H vs us Q I rv ⟨l, ns, e, h, hl, q⟩
end L2

set_option Elab.async false
set_option linter.all false
set_option maxRecDepth 100000
set_option maxHeartbeats 2000000
/-! own rules: tuples of which it is known that they have no dict of their own: their methods -/
namespace L2
open PySem PySem.Spec PyProof.Rows L2
/-- a tuple that was made by tuple(..), with the object that it is -/
def TupF (H : Hp) (a : Addr) (xs : List V) : Prop := ∃ o : Obj, H a = some (.frz o (.tup xs)) ∧ o.dict = none
theorem TupF.same {H H' : Hp} {a : Addr} {xs : List V} (h : TupF H a xs) (s : Same H H') : TupF H' a xs := let ⟨o, e, d⟩ := h; ⟨o, s _ _ e, d⟩
theorem TupF.sq {K : PySem.W.Frag} {H : Hp} {a : Addr} {xs : List V} (h : TupF H a xs) : SqT K H a xs := let ⟨o, e, _⟩ := h; .inl (.inr ⟨o, e⟩)
section
variable {X : Cx}
/-- tuple(xs) of a list; of such a tuple itself -/
def rTupF (K : PySem.W.Frag) : List V → Hp → VK → Prop := fun xs H Q => ∃ p ys, xs = [V.ref p] ∧ ((SqL K H p ys ∧ ∀ l o, H l = none → o.dict = none → Q (.ref l) (upd H l (.frz o (.tup ys)))) ∨ (SqT K H p ys ∧ Q (.ref p) H))
theorem call_tupF : CallR X (.type "tuple") (rTupF X.K) := by
  intro pins s σ H xs us Q I r h
  obtain ⟨p, ys, rfl, h⟩ := h
  rcases h with ⟨hq, q⟩ | ⟨hq, q⟩
  · obtain ⟨u, rfl, rx⟩ := vals1 r
    cases rx
    obtain ⟨its, r', pl, hz⟩ := I.list hq
    have hlen := r'.length
    refine call_tuple_list pl.isList (fun h' kp => ?_) (by simp only [List.size_toArray] <;> omega)
    have I1 : Inv X pins σ H { s with heap := h' } := I.kept (t' := s.toks) kp
    have I2 : Inv X pins σ (upd H h'.objs.size (.frz { cls := .type "tuple", data := .seq its.toArray } (.tup ys))) { s with heap := h'.push { cls := .type "tuple", data := .seq its.toArray } } :=
      I1.laid (t' := s.toks) (fun b o e => Heap.get?_push_of_some _ e) (Nat.le_refl _) (show ObjOk X.prog X.w _ _ _ (.frz _ (.tup ys)) from ⟨Heap.get?_push_size _ rfl, hz, its, r', IsTup.new _ _⟩)
    exact ⟨.ref h'.objs.size, _, I2, rfl, q _ _ (I1.hok.fresh (Nat.le_refl _)) rfl⟩
  · exact call_tuple_of pins s σ H _ us Q I r ⟨p, ys, rfl, .inr ⟨hq, q⟩⟩
def tBMF (r : V → List V → Hp → VK → Prop) (to : TE) (t : TA) : TE := fun σ H Q => to σ H fun x H1 => (∃ a xs, x = .ref a ∧ TupF H1 a xs) ∧ t σ H1 fun xs H2 => r x xs H2 Q
variable {o e : Expr} {es : List Expr} {to : TE} {t : TA} {name : Str} {apos cpos : Pos} {T id : String} {r : V → List V → Hp → VK → Prop}
theorem pe_bmF (slot : Slot "tuple" name id) (hty : typeOf (.builtin id) = pure (.type "method_descriptor")) (hm : MtR X id r) (ho : PE X o to) (ha : PA X (e :: es) t)
    (hbase : attributeBase o name X.env (eval o X.env) = eval o X.env := by rfl)
    (hfew : ((backTo cpos (starEach (e :: es) X.env)).all (fun x => !x.1) && (backToKw cpos (keywordEach [] X.env)).all (fun x => x.1.isSome)
      && decide ((e :: es).length + ([] : List Keyword).length + (if ([] : List Keyword).isEmpty then 0 else 1) < 30)) = true := by rfl)
    (hline : (apos.endLine == cpos.line) = true := by rfl) (hs : starEach (e :: es) X.env = (false, eval e X.env) :: starEach es X.env := by rfl) (hplain : (backTo cpos (starEach es X.env)).any (·.1) = false := by rfl) :
    PE X (.Call (.Attribute o name apos) (e :: es) [] cpos) (tBMF r to t) := by
  refine ⟨fun pins s σ H Q I h => ?_⟩
  refine wpAny_Call_method_late hbase hfew hline rfl (thn (ho.run pins s σ H _ I h) fun v s1 ⟨x, H1, I1, r1, ty, q1⟩ => ?_)
  obtain ⟨a, xs, rfl, oo, ho2, hd⟩ := ty
  cases r1
  obtain ⟨g1, g2⟩ := I1.hok a _ ho2
  obtain ⟨hz, its, rv, hit⟩ := g2
  obtain ⟨o2, e2, hc, n2, hdat⟩ := hit
  rw [g1] at e2
  cases e2
  refine ⟨"tuple", id, F.plainAttrs_tuple, slot, hty, ⟨_, g1, hc⟩, fun b eb => ?_, ?_⟩
  · cases eb
    exact ⟨_, g1, hd⟩
  have hA := ha.run cpos pins s1 σ H1 _ I1 q1
  rw [hs] at hA ⊢
  refine Calls.callWith_builtin (by show (false || (backTo cpos (starEach es X.env)).any (·.1)) = false; rw [hplain] <;> rfl) (Calls.evalArgs_plain ?_)
  exact thn hA fun us s2 ⟨vs, H2, I2, r2, q2⟩ => hm pins s2 σ H2 (.ref a) vs _ us Q I2 (show RelV (.ref a) (Value.ref a) from rfl) r2 q2
theorem lay_ints : ∀ ns : List Int, PyData.canLayAll0 (ns.map PyData.int) = true
  | [] => rfl
  | n :: ns => by
    rw [List.map_cons, PyData.canLayAll0, lay_ints ns]
    rfl
/-- t.index(k), whole numbers, k there -/
def rIndexT (K : PySem.W.Frag) : V → List V → Hp → VK → Prop := fun x vs H Q => ∃ (a : Addr) (ns : List Int) (k : Int) (j : Nat), x = .ref a ∧ vs = [.int k] ∧ SqT K H a (ns.map V.int) ∧ ns[j]? = some k ∧ (∀ m, m < j → ns[m]? ≠ some k) ∧ Q (.int (j : Nat)) H
theorem mt_indexTI (hu : X.A.units + 65 < cLine) : MtR X "tuple.index" (rIndexT X.K) := by
  intro pins s σ H x xs v us Q I rx rxs h
  obtain ⟨a, ns, k, j, rfl, rfl, hl, hj, hno, q⟩ := h
  cases rx
  cases rxs with
  | cons ry rt =>
    rename_i uy ut
    cases rt
    obtain ⟨its, rv, pl, hlen⟩ := I.tuple hl
    obtain ⟨as, h4⟩ := Dp.readsAll I (ns.map PyData.int) _ its (dpAll_ints _ _ ns) rv
    obtain ⟨bs, r1⟩ := Dp.reads I (.int k) _ uy (.int k) ry
    have hjl := (List.getElem?_eq_some_iff.mp hj).1
    have hvl := rv.length
    rw [List.length_map] at hvl hlen
    obtain ⟨⟨cls, dd, data, sl⟩, ho, hc, n, hd'⟩ := id pl
    simp only at hc hd'
    subst hc hd'
    have hxs : PyData.canLayAll0 (ns.map PyData.int) = true := lay_ints ns
    have hmap : its.map (SeqAt.readOf s.heap) = ns.map PyData.int := SeqAt.readsAll_map _ its as hxs h4
    have at_ : ∀ (m : Nat) (hm : m < its.toArray.size) (z : Int), ns[m]? = some z → SeqAt.readOf s.heap its.toArray[m] = .int z := by
      intro m hm z hz
      have hml : m < its.length := by simpa using hm
      have e1 : (its.map (SeqAt.readOf s.heap))[m]? = some (.int z) := by rw [hmap, List.getElem?_map, hz]; rfl
      rw [List.getElem?_map, List.getElem?_eq_getElem hml] at e1
      have e2 : SeqAt.readOf s.heap its[m] = .int z := Option.some.inj e1
      simpa using e2
    have hj2 : j < its.toArray.size := by simp only [List.size_toArray]; omega
    refine call_meets F.slot_tuple_index ⟨_, ho, rfl⟩ F.entry_tuple_index (F.args_tuple_index_2 _ _)
      (TI.tuple_indexAt a its.toArray n dd sl uy (fun u => PyData.eqv (SeqAt.readOf s.heap u) (.int k)) j hj2 ?_ ?_) ⟨ho, SeqAt.items_eqAt (vs := its.toArray) (show ReadsAll s.heap its.toArray.toList (ns.map PyData.int) as from h4) r1 hxs rfl (Nat.lt_of_le_of_lt (Nat.add_le_add_left (Nat.min_le_right _ _) _) (by simp only [PyData.depth]; omega)), ?_⟩
    · show PyData.eqv (SeqAt.readOf s.heap its.toArray[j]) (.int k) = true
      rw [at_ j hj2 k hj]
      show (k == k) = true
      exact beq_self_eq_true k
    · intro m hm hmj
      have hmn : m < ns.length := by simp only [List.size_toArray] at hm; omega
      have hz : ns[m]? = some ns[m] := List.getElem?_eq_getElem hmn
      show PyData.eqv (SeqAt.readOf s.heap its.toArray[m]) (.int k) = false
      rw [at_ m hm _ hz]
      show (ns[m] == k) = false
      exact beq_eq_false_iff_ne.mpr fun z => hno m hmj (by rw [hz, z])
    · exact ⟨.int (j : Nat), H, I.tok _, ⟨_, rfl⟩, q⟩
/-- x.count(y), two names, x a list or a known tuple of whole numbers -/
def tCnt (K : PySem.W.Frag) (i j : Nat) : TE := fun σ H Q => ∃ (a : Addr) (ns : List Int) (k : Int), σ[i]? = some (some (.ref a)) ∧ σ[j]? = some (some (.int k)) ∧ (SqL K H a (ns.map V.int) ∨ TupF H a (ns.map V.int)) ∧ Q (.int (ns.count k : Nat)) H
theorem pe_cnt {e : Expr} {i j : Nat} (h1 : PE X e (tBM X.K "list" (rCountL X.K) (tVar i) (tCons (tVar j) tNil))) (h2 : PE X e (tBMF (rCountT X.K) (tVar i) (tCons (tVar j) tNil))) : PE X e (tCnt X.K i j) := by
  refine ⟨fun pins s σ H Q I h => ?_⟩
  obtain ⟨a, ns, k, e1, e2, h, q⟩ := h
  rcases h with h | h
  · exact h1.run pins s σ H Q I ⟨_, e1, .inl ⟨rfl, _, h⟩, _, e2, a, ns, k, rfl, rfl, h, q⟩
  · exact h2.run pins s σ H Q I ⟨_, e1, ⟨a, _, rfl, h⟩, _, e2, a, ns, k, rfl, rfl, h.sq, q⟩
end
/-- two promises of one def -/
theorem FnOk.or {P : Program} {w : World} {K : PySem.W.Frag} {mg : Str → Option Value} {base : Heap} {CX : CXT} {k : Nat} {f : Addr} {fd : FuncData} {ps : List Str} {s1 s2 : Sp} (F1 : FnOk P w K mg base CX k f fd ps s1) (F2 : FnOk P w K mg base CX k f fd ps s2) :
    FnOk P w K mg base CX k f fd ps (fun vs H Q E => s1 vs H Q E ∨ s2 vs H Q E) := by
  refine ⟨fun vs H Q E h => h.elim (F1.len vs H Q E) (F2.len vs H Q E), ?_⟩
  intro A outer s H args us vs Q E hr e b
  have h1 := F1.run A outer s H args us vs Q E hr e b
  have h2 := F2.run A outer s H args us vs Q E hr e b
  intros
  first
    | (rename_i h; exact h.elim (fun z => h1 (by assumption) z) (fun z => h2 (by assumption) z))
    | (rename_i h; exact h.elim h1 h2)
end L2

set_option Elab.async false
set_option linter.all false
set_option maxRecDepth 100000
set_option maxHeartbeats 2000000
namespace Tw
open PySem PySem.Spec PyProof.Rows L2
def topS (i : Nat) : Stmt := PySem.Challenge.pw_heaprows_k12_whole_dealt.main.body.getD i (.Pass ⟨0, 0, 0, 0⟩)
abbrev s_is_integer : Stmt := topS 13
theorem sc_is_integer : FnScope ["thing"] ["thing"] (defScope s_is_integer) := ⟨rfl, rfl, rfl, by decide +kernel, rfl, by decide +kernel, by decide +kernel⟩
abbrev s_is_integer_from : Stmt := topS 14
theorem sc_is_integer_from : FnScope ["thing", "least", "greatest"] ["thing", "least", "greatest"] (defScope s_is_integer_from) := ⟨rfl, rfl, rfl, by decide +kernel, rfl, by decide +kernel, by decide +kernel⟩
abbrev s_is_key : Stmt := topS 15
theorem sc_is_key : FnScope ["thing"] ["thing"] (defScope s_is_key) := ⟨rfl, rfl, rfl, by decide +kernel, rfl, by decide +kernel, by decide +kernel⟩
abbrev s_check_arms : Stmt := topS 16
theorem sc_check_arms : FnScope ["arms"] ["arms"] (defScope s_check_arms) := ⟨rfl, rfl, rfl, by decide +kernel, rfl, by decide +kernel, by decide +kernel⟩
abbrev s_check_many : Stmt := topS 17
theorem sc_check_many : FnScope ["many"] ["many"] (defScope s_check_many) := ⟨rfl, rfl, rfl, by decide +kernel, rfl, by decide +kernel, by decide +kernel⟩
abbrev s_check_place : Stmt := topS 18
theorem sc_check_place : FnScope ["place", "many"] ["place", "many"] (defScope s_check_place) := ⟨rfl, rfl, rfl, by decide +kernel, rfl, by decide +kernel, by decide +kernel⟩
abbrev s_row_of : Stmt := topS 20
theorem sc_row_of : FnScope ["row", "index", "key"] ["row"] (defScope s_row_of) := ⟨rfl, rfl, rfl, by decide +kernel, rfl, by decide +kernel, by decide +kernel⟩
abbrev s_check_few : Stmt := topS 19
theorem sc_check_few : FnScope ["row", "most"] ["row", "most"] (defScope s_check_few) := ⟨rfl, rfl, rfl, by decide +kernel, rfl, by decide +kernel, by decide +kernel⟩
abbrev s_t___init__ : Stmt := inClass (topS 22) 0
theorem sc_t___init__ : FnScope ["self", "many", "arms"] ["self", "many", "arms"] (defScope s_t___init__) := ⟨rfl, rfl, rfl, by decide +kernel, rfl, by decide +kernel, by decide +kernel⟩
abbrev s_t_of : Stmt := inClass (topS 22) 1
theorem sc_t_of : FnScope ["cls", "row", "arms"] ["cls", "row", "arms"] (defScope s_t_of) := ⟨rfl, rfl, rfl, by decide +kernel, rfl, by decide +kernel, by decide +kernel⟩
abbrev s_t___len__ : Stmt := inClass (topS 22) 2
theorem sc_t___len__ : FnScope ["self"] ["self"] (defScope s_t___len__) := ⟨rfl, rfl, rfl, by decide +kernel, rfl, by decide +kernel, by decide +kernel⟩
abbrev s_t___iter__ : Stmt := inClass (topS 22) 4
theorem sc_t___iter__ : FnScope ["self"] ["self"] (defScope s_t___iter__) := ⟨rfl, rfl, rfl, by decide +kernel, rfl, by decide +kernel, by decide +kernel⟩
abbrev s_t_parent : Stmt := inClass (topS 22) 7
theorem sc_t_parent : FnScope ["self", "place"] ["self", "place"] (defScope s_t_parent) := ⟨rfl, rfl, rfl, by decide +kernel, rfl, by decide +kernel, by decide +kernel⟩
abbrev s_t_way_to : Stmt := inClass (topS 22) 8
theorem sc_t_way_to : FnScope ["self", "place", "way", "above"] ["self", "place"] (defScope s_t_way_to) := ⟨rfl, rfl, rfl, by decide +kernel, rfl, by decide +kernel, by decide +kernel⟩
abbrev s_t_subtree : Stmt := inClass (topS 22) 12
theorem sc_t_subtree : FnScope ["self", "place", "below"] ["self", "place"] (defScope s_t_subtree) := ⟨rfl, rfl, rfl, by decide +kernel, rfl, by decide +kernel, by decide +kernel⟩
abbrev s_t_size : Stmt := inClass (topS 22) 10
theorem sc_t_size : FnScope ["self", "place"] ["self", "place"] (defScope s_t_size) := ⟨rfl, rfl, rfl, by decide +kernel, rfl, by decide +kernel, by decide +kernel⟩
abbrev s_how_many_of : Stmt := topS 25
theorem sc_how_many_of : FnScope ["keys", "arms", "tree", "sizes", "chains", "held", "key", "longer", "places"] ["keys", "arms"] (defScope s_how_many_of) := ⟨rfl, rfl, rfl, by decide +kernel, rfl, by decide +kernel, by decide +kernel⟩
abbrev s_closed_sizes : Stmt := topS 26
theorem sc_closed_sizes : FnScope ["tree", "sizes", "place", "places"] ["tree"] (defScope s_closed_sizes) := ⟨rfl, rfl, rfl, by decide +kernel, rfl, by decide +kernel, by decide +kernel⟩
abbrev s_chains_to : Stmt := topS 27
theorem sc_chains_to : FnScope ["places", "chains", "before"] ["places", "chains"] (defScope s_chains_to) := ⟨rfl, rfl, rfl, by decide +kernel, rfl, by decide +kernel, by decide +kernel⟩
abbrev s_how_many : Stmt := topS 29
theorem sc_how_many : FnScope ["many", "arms", "tree", "product_of_sizes", "place"] ["many", "arms"] (defScope s_how_many) := ⟨rfl, rfl, rfl, by decide +kernel, rfl, by decide +kernel, by decide +kernel⟩
abbrev s__law_number : Stmt := topS 31
theorem sc__law_number : FnScope ["script", "index", "cells", "cell", "low", "high", "total", "blend"] ["script", "index"] (defScope s__law_number) := ⟨rfl, rfl, rfl, by decide +kernel, rfl, by decide +kernel, by decide +kernel⟩
abbrev s__law_take : Stmt := topS 32
theorem sc__law_take : FnScope ["draw", "many"] ["draw", "many"] (defScope s__law_take) := ⟨rfl, rfl, rfl, by decide +kernel, rfl, by decide +kernel, by decide +kernel⟩
abbrev s__law_pick : Stmt := topS 33
theorem sc__law_pick : FnScope ["draw", "things"] ["draw", "things"] (defScope s__law_pick) := ⟨rfl, rfl, rfl, by decide +kernel, rfl, by decide +kernel, by decide +kernel⟩
abbrev s__law_parent : Stmt := topS 34
theorem sc__law_parent : FnScope ["wide", "place"] ["wide", "place"] (defScope s__law_parent) := ⟨rfl, rfl, rfl, by decide +kernel, rfl, by decide +kernel, by decide +kernel⟩
abbrev s__law_way : Stmt := topS 35
theorem sc__law_way : FnScope ["wide", "place", "way", "lap"] ["wide", "place"] (defScope s__law_way) := ⟨rfl, rfl, rfl, by decide +kernel, rfl, by decide +kernel, by decide +kernel⟩
abbrev s__law_is_heap : Stmt := topS 39
theorem sc__law_is_heap : FnScope ["row", "wide", "place", "above"] ["row", "wide"] (defScope s__law_is_heap) := ⟨rfl, rfl, rfl, by decide +kernel, rfl, by decide +kernel, by decide +kernel⟩
abbrev s__law_arms : Stmt := topS 36
theorem sc__law_arms : FnScope ["draw"] ["draw"] (defScope s__law_arms) := ⟨rfl, rfl, rfl, by decide +kernel, rfl, by decide +kernel, by decide +kernel⟩
abbrev s__law_keys : Stmt := topS 37
theorem sc__law_keys : FnScope ["draw", "most", "span", "turn"] ["draw", "most", "span"] (defScope s__law_keys) := ⟨rfl, rfl, rfl, by decide +kernel, rfl, by decide +kernel, by decide +kernel⟩
abbrev s__law_order : Stmt := topS 38
theorem sc__law_order : FnScope ["draw", "many", "left", "order", "turn"] ["draw", "many"] (defScope s__law_order) := ⟨rfl, rfl, rfl, by decide +kernel, rfl, by decide +kernel, by decide +kernel⟩
abbrev s__law_lists : Stmt := topS 40
theorem sc__law_lists : FnScope ["keys", "found", "at", "key", "rest", "row"] ["keys"] (defScope s__law_lists) := ⟨rfl, rfl, rfl, by decide +kernel, rfl, by decide +kernel, by decide +kernel⟩
abbrev s__law_heaps : Stmt := topS 41
theorem sc__law_heaps : FnScope ["keys", "wide", "row"] ["keys", "wide"] (defScope s__law_heaps) := ⟨rfl, rfl, rfl, by decide +kernel, rfl, by decide +kernel, by decide +kernel⟩
abbrev s_law : Stmt := topS 42
theorem sc_law : FnScope ["script", "draw", "turn", "wide", "keys", "doubled", "many", "same", "two", "rows", "powers", "lot", "ones", "loose", "key", "place"] ["script"] (defScope s_law) := ⟨rfl, rfl, rfl, by decide +kernel, rfl, by decide +kernel, by decide +kernel⟩
/-- where the text's defs stand -/
structure Ad where
  f_is_integer : Addr
  d_is_integer : FuncData
  f_is_integer_from : Addr
  d_is_integer_from : FuncData
  f_is_key : Addr
  d_is_key : FuncData
  f_check_arms : Addr
  d_check_arms : FuncData
  f_check_many : Addr
  d_check_many : FuncData
  f_check_place : Addr
  d_check_place : FuncData
  f_row_of : Addr
  d_row_of : FuncData
  f_check_few : Addr
  d_check_few : FuncData
  f_t___init__ : Addr
  d_t___init__ : FuncData
  f_t_of : Addr
  d_t_of : FuncData
  f_t___len__ : Addr
  d_t___len__ : FuncData
  f_t___iter__ : Addr
  d_t___iter__ : FuncData
  f_t_parent : Addr
  d_t_parent : FuncData
  f_t_way_to : Addr
  d_t_way_to : FuncData
  f_t_subtree : Addr
  d_t_subtree : FuncData
  f_t_size : Addr
  d_t_size : FuncData
  f_how_many_of : Addr
  d_how_many_of : FuncData
  f_closed_sizes : Addr
  d_closed_sizes : FuncData
  f_chains_to : Addr
  d_chains_to : FuncData
  f_how_many : Addr
  d_how_many : FuncData
  f__law_number : Addr
  d__law_number : FuncData
  f__law_take : Addr
  d__law_take : FuncData
  f__law_pick : Addr
  d__law_pick : FuncData
  f__law_parent : Addr
  d__law_parent : FuncData
  f__law_way : Addr
  d__law_way : FuncData
  f__law_is_heap : Addr
  d__law_is_heap : FuncData
  f__law_arms : Addr
  d__law_arms : FuncData
  f__law_keys : Addr
  d__law_keys : FuncData
  f__law_order : Addr
  d__law_order : FuncData
  f__law_lists : Addr
  d__law_lists : FuncData
  f__law_heaps : Addr
  d__law_heaps : FuncData
  f_law : Addr
  d_law : FuncData
  C : Addr
  po : Addr
/-- what the top has written -/
structure Tx (K : PySem.W.Frag) (mg : Str → Option Value) (A : Ad) : Prop where
  F_is_integer : Fun K "is_integer" "is_integer" s_is_integer A.f_is_integer A.d_is_integer
  m_is_integer : mg "is_integer" = some (.ref A.f_is_integer)
  F_is_integer_from : Fun K "is_integer_from" "is_integer_from" s_is_integer_from A.f_is_integer_from A.d_is_integer_from
  m_is_integer_from : mg "is_integer_from" = some (.ref A.f_is_integer_from)
  F_is_key : Fun K "is_key" "is_key" s_is_key A.f_is_key A.d_is_key
  m_is_key : mg "is_key" = some (.ref A.f_is_key)
  F_check_arms : Fun K "check_arms" "check_arms" s_check_arms A.f_check_arms A.d_check_arms
  m_check_arms : mg "check_arms" = some (.ref A.f_check_arms)
  F_check_many : Fun K "check_many" "check_many" s_check_many A.f_check_many A.d_check_many
  m_check_many : mg "check_many" = some (.ref A.f_check_many)
  F_check_place : Fun K "check_place" "check_place" s_check_place A.f_check_place A.d_check_place
  m_check_place : mg "check_place" = some (.ref A.f_check_place)
  F_row_of : Fun K "row_of" "row_of" s_row_of A.f_row_of A.d_row_of
  m_row_of : mg "row_of" = some (.ref A.f_row_of)
  F_check_few : Fun K "check_few" "check_few" s_check_few A.f_check_few A.d_check_few
  m_check_few : mg "check_few" = some (.ref A.f_check_few)
  F_t___init__ : FunD K "__init__" "Tree.__init__" (defArgs s_t___init__) (defBody s_t___init__) (defScope s_t___init__) [] [("arms", V.int 2)] A.f_t___init__ A.d_t___init__
  F_t_of : FunD K "of" "Tree.of" (defArgs s_t_of) (defBody s_t_of) (defScope s_t_of) [] [("arms", V.int 2)] A.f_t_of A.d_t_of
  F_t___len__ : Fun K "__len__" "Tree.__len__" s_t___len__ A.f_t___len__ A.d_t___len__
  D_t___len__ : Dn K A.C "__len__" A.f_t___len__
  F_t___iter__ : Fun K "__iter__" "Tree.__iter__" s_t___iter__ A.f_t___iter__ A.d_t___iter__
  D_t___iter__ : Dn K A.C "__iter__" A.f_t___iter__
  F_t_parent : Fun K "parent" "Tree.parent" s_t_parent A.f_t_parent A.d_t_parent
  M_t_parent : Meth K A.C "parent" A.f_t_parent
  F_t_way_to : Fun K "way_to" "Tree.way_to" s_t_way_to A.f_t_way_to A.d_t_way_to
  M_t_way_to : Meth K A.C "way_to" A.f_t_way_to
  F_t_subtree : Fun K "subtree" "Tree.subtree" s_t_subtree A.f_t_subtree A.d_t_subtree
  M_t_subtree : Meth K A.C "subtree" A.f_t_subtree
  F_t_size : Fun K "size" "Tree.size" s_t_size A.f_t_size A.d_t_size
  M_t_size : Meth K A.C "size" A.f_t_size
  F_how_many_of : FunD K "how_many_of" "how_many_of" (defArgs s_how_many_of) (defBody s_how_many_of) (defScope s_how_many_of) [] [("arms", V.int 2)] A.f_how_many_of A.d_how_many_of
  m_how_many_of : mg "how_many_of" = some (.ref A.f_how_many_of)
  F_closed_sizes : Fun K "closed_sizes" "closed_sizes" s_closed_sizes A.f_closed_sizes A.d_closed_sizes
  m_closed_sizes : mg "closed_sizes" = some (.ref A.f_closed_sizes)
  F_chains_to : Fun K "chains_to" "chains_to" s_chains_to A.f_chains_to A.d_chains_to
  m_chains_to : mg "chains_to" = some (.ref A.f_chains_to)
  F_how_many : FunD K "how_many" "how_many" (defArgs s_how_many) (defBody s_how_many) (defScope s_how_many) [] [("arms", V.int 2)] A.f_how_many A.d_how_many
  m_how_many : mg "how_many" = some (.ref A.f_how_many)
  F__law_number : Fun K "_law_number" "_law_number" s__law_number A.f__law_number A.d__law_number
  m__law_number : mg "_law_number" = some (.ref A.f__law_number)
  F__law_take : Fun K "_law_take" "_law_take" s__law_take A.f__law_take A.d__law_take
  m__law_take : mg "_law_take" = some (.ref A.f__law_take)
  F__law_pick : Fun K "_law_pick" "_law_pick" s__law_pick A.f__law_pick A.d__law_pick
  m__law_pick : mg "_law_pick" = some (.ref A.f__law_pick)
  F__law_parent : Fun K "_law_parent" "_law_parent" s__law_parent A.f__law_parent A.d__law_parent
  m__law_parent : mg "_law_parent" = some (.ref A.f__law_parent)
  F__law_way : Fun K "_law_way" "_law_way" s__law_way A.f__law_way A.d__law_way
  m__law_way : mg "_law_way" = some (.ref A.f__law_way)
  F__law_is_heap : Fun K "_law_is_heap" "_law_is_heap" s__law_is_heap A.f__law_is_heap A.d__law_is_heap
  m__law_is_heap : mg "_law_is_heap" = some (.ref A.f__law_is_heap)
  F__law_arms : Fun K "_law_arms" "_law_arms" s__law_arms A.f__law_arms A.d__law_arms
  m__law_arms : mg "_law_arms" = some (.ref A.f__law_arms)
  F__law_keys : Fun K "_law_keys" "_law_keys" s__law_keys A.f__law_keys A.d__law_keys
  m__law_keys : mg "_law_keys" = some (.ref A.f__law_keys)
  F__law_order : Fun K "_law_order" "_law_order" s__law_order A.f__law_order A.d__law_order
  m__law_order : mg "_law_order" = some (.ref A.f__law_order)
  F__law_lists : Fun K "_law_lists" "_law_lists" s__law_lists A.f__law_lists A.d__law_lists
  m__law_lists : mg "_law_lists" = some (.ref A.f__law_lists)
  F__law_heaps : Fun K "_law_heaps" "_law_heaps" s__law_heaps A.f__law_heaps A.d__law_heaps
  m__law_heaps : mg "_law_heaps" = some (.ref A.f__law_heaps)
  F_law : Fun K "law" "law" s_law A.f_law A.d_law
  m_law : mg "law" = some (.ref A.f_law)
  c_GREATEST_KEY : mg "GREATEST_KEY" = some (.int 1000000000 0) ∨ ∃ t, mg "GREATEST_KEY" = some (.int 1000000000 t)
  c_MOST_ARMS : mg "MOST_ARMS" = some (.int 4 0) ∨ ∃ t, mg "MOST_ARMS" = some (.int 4 t)
  c_MOST_KEYS : mg "MOST_KEYS" = some (.int 10 0) ∨ ∃ t, mg "MOST_KEYS" = some (.int 10 t)
  c_MOST_PLACES : mg "MOST_PLACES" = some (.int 12 0) ∨ ∃ t, mg "MOST_PLACES" = some (.int 12 t)
  g_any : mg "any" = none
  g_bool : mg "bool" = none
  g_enumerate : mg "enumerate" = none
  g_int : mg "int" = none
  g_isinstance : mg "isinstance" = none
  g_iter : mg "iter" = none
  g_len : mg "len" = none
  g_list : mg "list" = none
  g_range : mg "range" = none
  g_set : mg "set" = none
  g_sorted : mg "sorted" = none
  g_sum : mg "sum" = none
  g_tuple : mg "tuple" = none
  b_factorial : mg "factorial" = some (.builtin "math.factorial")
  cT : Cls K A.C
  nMany : NoAttr K A.C "many"
  nArms : NoAttr K A.C "arms"
  nPl : NoAttr K A.C "_places"
  mC : mg "Tree" = some (.ref A.C)
  mkC : Mk K A.C A.f_t___init__
  cr : ClX.CRead K A.C (.type "type")
  cof : ClX.CMet K A.C (.type "type") "of" A.po A.f_t_of

end Tw

set_option Elab.async false
set_option linter.all false
set_option maxRecDepth 100000
set_option maxHeartbeats 2000000
namespace Tw
open PySem PySem.Spec PyProof.Rows L2
section
variable {P : Program} {w : World} {K : PySem.W.Frag} {mg : Str → Option Value} {base : Heap} {A : Ad}
open LamX (ExtN Tabs TabS)
/-- the places of a tree -/
def pl (n : Nat) : List V := (List.range n).map fun i => V.int (i : Nat)
/-- its attributes -/
def tf (n w t : Nat) : List (Str × V) := putF "_places" (.ref t) (putF "arms" (.int w) (putF "many" (.int n) []))
/-- a tree of n places and w arms stands at p -/
structure TreeAt (C : Addr) (H : Hp) (p n w : Nat) : Prop where
  ob : ∃ dx t, H p = some (.ins C dx (tf n w t)) ∧ H t = some (.tup (pl n))
  hn : n ≤ 12
  hw : 1 ≤ w ∧ w ≤ 4
theorem b_ca (T : Tx K mg A) : L2.Binds K A.d_check_arms ["arms"] [] := T.F_check_arms.binds fun _ _ _ _ _ _ us hl => match us, hl with | [_], _ => rfl
theorem b_key (T : Tx K mg A) : L2.Binds K A.d_is_key ["thing"] [] := T.F_is_key.binds fun _ _ _ _ _ _ us hl => match us, hl with | [_], _ => rfl
theorem b_row (T : Tx K mg A) : L2.Binds K A.d_row_of ["row"] [] := T.F_row_of.binds fun _ _ _ _ _ _ us hl => match us, hl with | [_], _ => rfl
theorem cst {x : Str} {n : Int} (h : mg x = some (.int n 0) ∨ ∃ t, mg x = some (.int n t)) : ∃ t, mg x = some (.int n t) := h.elim (fun e => ⟨0, e⟩) id
theorem kb_init (T : Tx K mg A) : ∃ mv : List Value, KBn K A.d_t___init__ ["self", "many", "arms"] 2 ["arms"] (fun us ws => us ++ (mv ++ ws)) (fun vs zs => vs ++ zs) := by
  obtain ⟨mv, h⟩ := T.F_t___init__.kbinds0 (ps := ["self", "many", "arms"]) 2 ["arms"] [] (fun us mv ws => us ++ (mv ++ ws)) (by simp) (by simp) (fun r1 r2 r3 => r1.append (r2.append r3))
    (fun D doc pm an cdv ct us mv ws h1 h2 h3 => by
      match us, mv, ws, h1, h2, h3 with
      | [a, b], [], [c], _, _, _ => rfl)
  exact ⟨mv, h⟩
/-- True just for ints -/
def spIs (K : PySem.W.Frag) : Sp := fun vs H Q _ => ∃ x : V, vs = [x] ∧
  ((∃ i, x = .int i ∧ Q (.bl true) H) ∨ (∃ n b1 b2, TyX K H x (.type n) ∧ kitB n "int" = some b1 ∧ kitB n "bool" = some b2 ∧ (b1 && !b2) = false ∧ Q (.bl false) H))
theorem ok_is (T : Tx K mg A) : FnOk P w K mg base CX0 1 A.f_is_integer A.d_is_integer ["thing"] (spIs K) := by
  refine T.F_is_integer.ok sc_is_integer (fun vs H Q E h => ?_) (fun cdv B outer s H vs Q E hr h => ?_)
  · obtain ⟨x, rfl, _⟩ := h
    rfl
  · obtain ⟨x, rfl, h⟩ := h
    refine ⟨_, pss_one (ps_ret (pe_and (pe_callB call_isi (by rfl) T.g_isinstance (by decide +kernel) (pa_cons (pv 0) (pa_cons (pe_bltn (v := .ty "int") (by rfl) T.g_int (by decide +kernel) rfl) pa_nil)))
      (pe_one (pe_not (pe_callB call_isi (by rfl) T.g_isinstance (by decide +kernel) (pa_cons (pv 0) (pa_cons (pe_bltn (v := .ty "bool") (by rfl) T.g_bool (by decide +kernel) rfl) pa_nil))))))), ?_⟩
    rcases h with ⟨i, rfl, q⟩ | ⟨n, b1, b2, ty, k1, k2, hb, q⟩
    · refine ⟨_, rfl, _, _, .type "int", .type "int", true, rfl, .ty "int", .base (.int i), kit_ty (by decide +kernel), true, rfl, iteT ?_⟩
      exact ⟨_, rfl, _, _, .type "int", .type "bool", false, rfl, .ty "bool", .base (.int i), kit_ty (by decide +kernel), false, rfl, q⟩
    · refine ⟨_, rfl, _, _, .type n, .type "int", b1, rfl, .ty "int", ty, kit_ty k1, b1, rfl, ?_⟩
      cases b1 with
      | false => exact iteF q
      | true =>
        cases b2 with
        | false => cases hb
        | true => exact iteT ⟨_, rfl, _, _, .type n, .type "bool", true, rfl, .ty "bool", ty, kit_ty k2, true, rfl, q⟩
theorem b_is (T : Tx K mg A) : L2.Binds K A.d_is_integer ["thing"] [] := T.F_is_integer.binds fun _ _ _ _ _ _ us hl => match us, hl with | [_], _ => rfl
/-- True just for ints within; other things by their class -/
def spII (K : PySem.W.Frag) : Sp := fun vs H Q _ => ∃ (x : V) (a b : Int), vs = [x, .int a, .int b] ∧
  ((∃ i, x = .int i ∧ Q (.bl (decide (a ≤ i ∧ i ≤ b))) H) ∨ (∃ n b1 b2, TyX K H x (.type n) ∧ kitB n "int" = some b1 ∧ kitB n "bool" = some b2 ∧ (b1 && !b2) = false ∧ Q (.bl false) H))
theorem ok_ii (T : Tx K mg A) : FnOk P w K mg base CX0 2 A.f_is_integer_from A.d_is_integer_from ["thing", "least", "greatest"] (spII K) := by
  refine T.F_is_integer_from.ok sc_is_integer_from (fun vs H Q E h => ?_) (fun cdv B outer s H vs Q E hr h => ?_)
  · obtain ⟨x, a, b, rfl, _⟩ := h
    rfl
  · obtain ⟨x, a, b, rfl, h⟩ := h
    refine ⟨_, pss_one (ps_ret (pe_and (pe_call (ok_is T) hr (by rfl) T.m_is_integer T.F_is_integer.kp (b_is T) .nil pass0 (pa_cons (pv 0) pa_nil))
        (pe_one (pe_chain op_le op_le (pv 1) (pv 0) (pv 2))))), ?_⟩
    rcases h with ⟨i, rfl, q⟩ | h
    · refine ⟨_, rfl, _, rfl, .inl ⟨i, rfl, true, rfl, iteT ?_⟩⟩
      refine ⟨_, rfl, _, rfl, _, _, rfl, rfl, _, rfl, ?_⟩
      by_cases h1 : a ≤ i
      · rw [decide_eq_true h1]
        refine iteT ⟨_, rfl, _, _, rfl, rfl, ?_⟩
        have e : decide (a ≤ i ∧ i ≤ b) = decide (i ≤ b) := by simp [h1]
        rw [e] at q
        exact q
      · rw [decide_eq_false h1]
        have e : decide (a ≤ i ∧ i ≤ b) = false := by simp [h1]
        rw [e] at q
        exact iteF q
    · obtain ⟨n, b1, b2, ty, k1, k2, hb, q⟩ := h
      exact ⟨_, rfl, _, rfl, .inr ⟨n, b1, b2, ty, k1, k2, hb, false, rfl, iteF q⟩⟩
theorem b_ii (T : Tx K mg A) : L2.Binds K A.d_is_integer_from ["thing", "least", "greatest"] [] := T.F_is_integer_from.binds fun _ _ _ _ _ _ us hl => match us, hl with | [_, _, _], _ => rfl
def spCa : Sp := fun vs H Q _ => ∃ i : Int, vs = [.int i] ∧ (1 ≤ i ∧ i ≤ 4) ∧ Q .non H
theorem ok_ca (T : Tx K mg A) : FnOk P w K mg base CX0 3 A.f_check_arms A.d_check_arms ["arms"] spCa := by
  refine T.F_check_arms.ok sc_check_arms (fun vs H Q E h => ?_) (fun cdv B outer s H vs Q E hr h => ?_)
  · obtain ⟨i, rfl, _⟩ := h
    rfl
  · obtain ⟨i, rfl, hi, q⟩ := h
    obtain ⟨t, hg⟩ := cst T.c_MOST_ARMS
    refine ⟨_, pss_one (ps_if (pt_not (pt_val (pe_call (ok_ii T) hr (by rfl) T.m_is_integer_from T.F_is_integer_from.kp (b_ii T) .nil pass0
      (pa_cons (pv 0) (pa_cons pe_int (pa_cons (pe_glob (by rfl) hg (relI _ _)) pa_nil)))))) (pss_one ps_never) pss_nil), ?_⟩
    refine ⟨_, rfl, _, _, _, rfl, .inl ⟨i, rfl, _, rfl, ?_⟩⟩
    rw [decide_eq_true hi]
    exact iteF q
def spCm : Sp := fun vs H Q _ => ∃ i : Int, vs = [.int i] ∧ (0 ≤ i ∧ i ≤ 12) ∧ Q .non H
theorem ok_cm (T : Tx K mg A) : FnOk P w K mg base CX0 3 A.f_check_many A.d_check_many ["many"] spCm := by
  refine T.F_check_many.ok sc_check_many (fun vs H Q E h => ?_) (fun cdv B outer s H vs Q E hr h => ?_)
  · obtain ⟨i, rfl, _⟩ := h
    rfl
  · obtain ⟨i, rfl, hi, q⟩ := h
    obtain ⟨t, hg⟩ := cst T.c_MOST_PLACES
    refine ⟨_, pss_one (ps_if (pt_not (pt_val (pe_call (ok_ii T) hr (by rfl) T.m_is_integer_from T.F_is_integer_from.kp (b_ii T) .nil pass0
      (pa_cons (pv 0) (pa_cons pe_int (pa_cons (pe_glob (by rfl) hg (relI _ _)) pa_nil)))))) (pss_one ps_never) pss_nil), ?_⟩
    refine ⟨_, rfl, _, _, _, rfl, .inl ⟨i, rfl, _, rfl, ?_⟩⟩
    rw [decide_eq_true hi]
    exact iteF q
theorem b_cm (T : Tx K mg A) : L2.Binds K A.d_check_many ["many"] [] := T.F_check_many.binds fun _ _ _ _ _ _ us hl => match us, hl with | [_], _ => rfl
theorem rg_pl (n : Nat) : rgV 0 (n : Int) = pl n := by
  unfold rgV pl
  rw [show ((n : Int) - 0).toNat = n by omega]
  exact congrArg (fun f => (List.range n).map f) (funext fun i => by rw [Int.zero_add])
theorem n1 : ¬ (("many" : Str) = "arms") := by decide +kernel
def spInit (C : Addr) : Sp := fun vs H Q _ => ∃ (p dx n w : Nat), vs = [.ref p, .int n, .int w] ∧ n ≤ 12 ∧ (1 ≤ w ∧ w ≤ 4) ∧ H p = some (.ins C dx []) ∧
  ∀ (H' : Hp), (∀ b o, H b = some o → b ≠ p → H' b = some o) → TreeAt C H' p n w → Q .non H'
theorem ok_init (T : Tx K mg A) : FnOk P w K mg base CX0 4 A.f_t___init__ A.d_t___init__ ["self", "many", "arms"] (spInit A.C) := by
  refine T.F_t___init__.ok sc_t___init__ (fun vs H Q E h => ?_) (fun cdv B outer s H vs Q E hr h => ?_)
  · obtain ⟨p, dx, n, w, rfl, _⟩ := h
    rfl
  · obtain ⟨p, dx, n, w, rfl, hn, hw, hp, q⟩ := h
    refine ⟨_, PSs.nox (pss_cons (ps_expr (pe_call (ok_ca T) hr (by rfl) T.m_check_arms T.F_check_arms.kp (b_ca T) .nil pass0 (pa_cons (pv 2) pa_nil)))
      (pss_cons (ps_expr (pe_call (ok_cm T) hr (by rfl) T.m_check_many T.F_check_many.kp (b_cm T) .nil pass0 (pa_cons (pv 1) pa_nil)))
      (pss_cons (ps_fld (pv 0) (pv 1) rfl) (pss_cons (ps_fld (pv 0) (pv 2) rfl)
      (pss_one (ps_fld (pv 0) (pe_tupRg rfl (by rfl) T.g_tuple (prg_1 (by rfl) T.g_range (pv 1))) rfl)))))), ?_⟩
    refine ⟨_, rfl, _, rfl, ⟨by omega, by omega⟩, _, rfl, _, rfl, ⟨by omega, by omega⟩, ?_⟩
    refine ⟨_, rfl, _, rfl, p, A.C, dx, _, rfl, hp, T.cT, T.nMany, (by show 0 < 1000; decide), ?_⟩
    refine ⟨_, rfl, _, rfl, p, A.C, dx, _, rfl, upd_same, T.cT, T.nArms, (by show 1 < 1000; decide), ?_⟩
    refine ⟨_, rfl, _, rfl, RgOk.of_le (by omega) (by omega) (by omega) (by omega), fun t ht => ?_⟩
    have npt : p ≠ t := fun z => by
      rw [z, upd_same] at ht
      cases ht
    refine ⟨_, rfl, p, A.C, dx, _, rfl, Eq.trans (upd_ne npt) upd_same, T.cT, T.nPl, (by simp only [putF, n1, if_false]; show 2 < 1000; decide), ?_⟩
    refine q _ (fun b o e hb => ?_) ⟨⟨dx, t, upd_same, ?_⟩, hn, hw⟩
    · have nbt : b ≠ t := ne_of_none (by rw [upd_ne hb, upd_ne hb]; exact e) ht
      rw [upd_ne hb, upd_ne nbt, upd_ne hb, upd_ne hb]
      exact e
    · rw [upd_ne npt.symm, upd_same, rg_pl]
/-- is_key of an int -/
def spKey : Sp := fun vs H Q _ => ∃ i : Int, vs = [.int i] ∧ Q (.bl (decide (-1000000000 ≤ i ∧ i ≤ 1000000000))) H
theorem ok_key (T : Tx K mg A) : FnOk P w K mg base CX0 3 A.f_is_key A.d_is_key ["thing"] spKey := by
  refine T.F_is_key.ok sc_is_key (fun vs H Q E h => ?_) (fun cdv B outer s H vs Q E hr h => ?_)
  · obtain ⟨i, rfl, _⟩ := h
    rfl
  · obtain ⟨i, rfl, q⟩ := h
    obtain ⟨t, hg⟩ := cst T.c_GREATEST_KEY
    refine ⟨_, pss_one (ps_ret (pe_call (ok_ii T) hr (by rfl) T.m_is_integer_from T.F_is_integer_from.kp (b_ii T) .nil pass0
      (pa_cons (pv 0) (pa_cons (pe_un un_neg (pe_glob (by rfl) hg (relI _ _))) (pa_cons (pe_glob (by rfl) hg (relI _ _)) pa_nil))))), ?_⟩
    exact ⟨_, rfl, _, rfl, _, _, _, rfl, .inl ⟨i, rfl, q⟩⟩
/-- a list or a tuple -/
def Sq (H : Hp) (a : Addr) (xs : List V) : Prop := H a = some (.lst xs) ∨ H a = some (.tup xs)
theorem Sq.same {H H' : Hp} {a : Addr} {xs : List V} (h : Sq H a xs) (s : Same H H') : Sq H' a xs := h.elim (fun e => .inl (s _ _ e)) fun e => .inr (s _ _ e)
theorem Sq.len {K : PySem.W.Frag} {H : Hp} {a : Addr} {xs : List V} (h : Sq H a xs) : SqL K H a xs ∨ SqT K H a xs := h.elim (fun e => .inl (SqL.of e)) fun e => .inr (SqT.of e)
/-- keys go in, a tuple of them comes out -/
def spRow (K : PySem.W.Frag) : Sp := fun vs H Q _ => ∃ (a : Addr) (ns : List Int), vs = [.ref a] ∧ Sq H a (ns.map V.int) ∧ ns.length ≤ 12 ∧ (∀ n ∈ ns, -1000000000 ≤ n ∧ n ≤ 1000000000) ∧
  ∀ H' p, Same H H' → H' p = some (.tup (ns.map V.int)) → Q (.ref p) H'
theorem ok_row (T : Tx K mg A) : FnOk P w K mg base CX0 4 A.f_row_of A.d_row_of ["row"] (spRow K) := by
  refine T.F_row_of.ok sc_row_of (fun vs H Q E h => ?_) (fun cdv B outer s H vs Q E hr h => ?_)
  · obtain ⟨a, ns, rfl, _⟩ := h
    rfl
  · obtain ⟨a, ns, rfl, ha, hl, hk, q⟩ := h
    obtain ⟨t, hg⟩ := cst T.c_MOST_PLACES
    refine ⟨_, pss_cons (ps_if (PW.pt (pw_or (pt_not (pt_val (pe_callB call_isiT (by rfl) T.g_isinstance (by decide +kernel) (pa_cons (pv 0) (pa_cons (pe_tup (pa_cons (pe_bltn (v := .ty "list") (by rfl) T.g_list (by decide +kernel) rfl) (pa_cons (pe_bltn (v := .ty "tuple") (by rfl) T.g_tuple (by decide +kernel) rfl) pa_nil))) pa_nil)))))
        (pw_or1 (pt_cmpR op_gt (pe_callB call_len_seq (by rfl) T.g_len PySem.boot_len (pa_cons (pv 0) pa_nil)) (pe_glob (by rfl) hg (relI _ _)) (nomark _))))) (pss_one ps_never) pss_nil)
      (C8.pss_cut (ps_for PassesOwn.never rfl (pi_enS (by rfl) T.g_enumerate (pa_cons (pv 0) pa_nil)) (pg_tup rfl (pgs_cons (pg_name (i := 1) sc_row_of.nd rfl (Or.inl rfl)) (pgs_cons (pg_name (i := 2) sc_row_of.nd rfl (Or.inl rfl)) pgs_nil)))
        (pss_one (ps_if (pt_not (pt_val (pe_call (ok_key T) hr (by rfl) T.m_is_key T.F_is_key.kp (b_key T) .nil pass0 (pa_cons (pv 2) pa_nil)))) (pss_one ps_never) pss_nil)))
      (pss_one (ps_ret (pe_callTy call_tuple_of (by rfl) T.g_tuple (by decide +kernel) (pa_cons (pv 0) pa_nil))))), ?_⟩
    refine ⟨_, rfl, by show 2 ≤ sizeLine; decide, fun tp htp => ?_⟩
    have ha1 : Sq (upd H tp (.tup [.ty "list", .ty "tuple"])) a (ns.map V.int) := ha.same (Same.up htp)
    have isi : ∃ c b1, TyX K (upd H tp (.tup [.ty "list", .ty "tuple"])) (.ref a) (.type c) ∧ PySem.W.kitOne K (.type c) (.type "list") = some b1 ∧ (b1 = false → PySem.W.kitOne K (.type c) (.type "tuple") = some true) := by
      rcases ha1 with h | h
      · exact ⟨"list", true, .base (.lst h), kit_ty (by decide +kernel), fun z => by cases z⟩
      · exact ⟨"tuple", false, .base (.tup h), kit_ty (by decide +kernel), fun _ => kit_ty (by decide +kernel)⟩
    obtain ⟨c, b1, ty, k1, k2⟩ := isi
    refine ⟨_, tp, _, .type c, [.type "list", .type "tuple"], true, rfl, upd_same, .cons (.ty _) (.cons (.ty _) .nil), ty, kitAny_cons k1 (fun z => kitAny_cons (k2 z) (fun z => by cases z) (fun _ => rfl)) (fun _ => rfl), true, rfl, ?_⟩
    refine iteF ⟨_, rfl, a, _, rfl, ha1.len, _, _, rfl, rfl, _, rfl, ite2 (fun z => ?_) (fun _ => ?_)⟩
    · exfalso
      rw [List.length_map] at z
      have := of_decide_eq_true z
      omega
    refine ⟨fun σ H' => ∃ z y, σ = [some (.ref a), z, y] ∧ Same H H', ?_, ?_⟩
    · rcases ha with ha | ha
      · refine ⟨_, rfl, a, _, rfl, .inl ⟨SqL.of ((Same.up htp) _ _ ha), for_it (walk_enum (xs := ns.map V.int)) (fun i σ H' => ∃ z y, σ = [some (.ref a), z, y] ∧ Same H H') ⟨none, none, rfl, Same.up htp⟩ (fun i σ H' _ ⟨_, _, _, s⟩ => SqL.of (s _ _ ha)) ?_ ?_⟩⟩
        · rintro i v σ H2 H3 hi ⟨z, y, rfl, s⟩ ⟨T', x, x2, rfl, hT, rfl, e1, e2⟩
          obtain ⟨hi', rfl⟩ := ints_at e2
          cases e1
          refine ⟨_, _, rfl, SqT.of upd_same, rfl, _, _, rfl, _, _, rfl, rfl, ?_⟩
          refine ⟨_, rfl, _, rfl, _, rfl, ?_⟩
          rw [decide_eq_true (hk _ (List.getElem_mem hi'))]
          exact iteF ⟨_, _, rfl, s.trans (Same.up hT)⟩
        · rintro σ H2 ⟨z, y, rfl, s⟩
          exact ⟨_, _, rfl, s⟩
      · refine ⟨_, rfl, a, _, rfl, .inr ⟨SqT.of ((Same.up htp) _ _ ha), for_it (walk_enumT (xs := ns.map V.int)) (fun i σ H' => ∃ z y, σ = [some (.ref a), z, y] ∧ Same H H') ⟨none, none, rfl, Same.up htp⟩ (fun i σ H' _ ⟨_, _, _, s⟩ => SqT.of (s _ _ ha)) ?_ ?_⟩⟩
        · rintro i v σ H2 H3 hi ⟨z, y, rfl, s⟩ ⟨T', x, x2, rfl, hT, rfl, e1, e2⟩
          obtain ⟨hi', rfl⟩ := ints_at e2
          cases e1
          refine ⟨_, _, rfl, SqT.of upd_same, rfl, _, _, rfl, _, _, rfl, rfl, ?_⟩
          refine ⟨_, rfl, _, rfl, _, rfl, ?_⟩
          rw [decide_eq_true (hk _ (List.getElem_mem hi'))]
          exact iteF ⟨_, _, rfl, s.trans (Same.up hT)⟩
        · rintro σ H2 ⟨z, y, rfl, s⟩
          exact ⟨_, _, rfl, s⟩
    · rintro σ H2 ⟨z, y, rfl, s⟩
      rcases ha with ha | ha
      · exact ⟨_, rfl, a, _, rfl, .inl ⟨SqL.of (s _ _ ha), fun p hp => q _ _ (s.trans (Same.up hp)) upd_same⟩⟩
      · exact ⟨_, rfl, a, _, rfl, .inr ⟨SqT.of (s _ _ ha), q _ _ s (s _ _ ha)⟩⟩
def spOf (K : PySem.W.Frag) (C : Addr) : Sp := fun vs H Q _ => ∃ (a w : Nat) (ns : List Int), vs = [.ref C, .ref a, .int w] ∧ (1 ≤ w ∧ w ≤ 4) ∧ Sq H a (ns.map V.int) ∧ ns.length ≤ 12 ∧ (∀ n ∈ ns, -1000000000 ≤ n ∧ n ≤ 1000000000) ∧
  ∀ (H' : Hp) p, Same H H' → H p = none → TreeAt C H' p ns.length w → Q (.ref p) H'
theorem ok_of (T : Tx K mg A) : FnOk P w K mg base CX0 6 A.f_t_of A.d_t_of ["cls", "row", "arms"] (spOf K A.C) := by
  obtain ⟨mv, kb⟩ := kb_init T
  refine T.F_t_of.ok sc_t_of (fun vs H Q E h => ?_) (fun cdv B outer s H vs Q E hr h => ?_)
  · obtain ⟨a, w, ns, rfl, _⟩ := h
    rfl
  · obtain ⟨a, w, ns, rfl, hw, ha, hl, hk, q⟩ := h
    refine ⟨_, PSs.nox (pss_cons (ps_expr (pe_call (ok_ca T) (hr.mono (by decide)) (by rfl) T.m_check_arms T.F_check_arms.kp (b_ca T) .nil pass0 (pa_cons (pv 2) pa_nil)))
      (pss_one (ps_ret (pe_makeLK (i := 0) T.mkC (ok_init T) hr kb pass0 (pa_cons (pe_callB call_len_seq (by rfl) T.g_len PySem.boot_len (pa_cons (pe_call (ok_row T) (hr.mono (by decide)) (by rfl) T.m_row_of T.F_row_of.kp (b_row T) .nil pass0 (pa_cons (pv 1) pa_nil)) pa_nil)) pa_nil)
        (pk_cons (pv 2) pk_nil) rfl (Or.inl rfl))))), ?_⟩
    refine ⟨_, rfl, _, rfl, ⟨by omega, by omega⟩, rfl, _, rfl, a, ns, rfl, ha, hl, hk, fun H1 p s1 hp => ?_⟩
    refine ⟨p, _, rfl, .inr (SqT.of hp), _, rfl, rfl, rfl, fun x dx nx ndx nex => ?_⟩
    refine ⟨x, dx, ns.length, w, by rw [List.length_map]; rfl, hl, hw, upd_same, fun H2 k2 t2 => ⟨rfl, q H2 x (fun b o e => k2 b o ?_ (ne_of_none (s1 _ _ e) nx)) (s1.free nx) t2⟩⟩
    rw [upd_ne (ne_of_none (s1 _ _ e) nx), upd_ne (ne_of_none (s1 _ _ e) ndx)]
    exact s1 _ _ e
theorem TreeAt.same {C : Addr} {H H' : Hp} {p n w : Nat} (h : TreeAt C H p n w) (s : Same H H') : TreeAt C H' p n w :=
  ⟨let ⟨dx, t, a, b⟩ := h.ob; ⟨dx, t, s _ _ a, s _ _ b⟩, h.hn, h.hw⟩
end
end Tw

set_option Elab.async false
set_option linter.all false
set_option maxRecDepth 100000
set_option maxHeartbeats 2000000
namespace Tw
open PySem PySem.Spec PyProof.Rows L2
section
variable {P : Program} {w : World} {K : PySem.W.Frag} {mg : Str → Option Value} {base : Heap} {A : Ad}
open LamX (ExtN Tabs TabS)
/-! rows that are known tuples -/
theorem tupF_ty {K : PySem.W.Frag} {H : Hp} {a : Addr} {xs : List V} (h : TupF H a xs) : TyX K H (.ref a) (.type "tuple") := let ⟨_, e, _⟩ := h; .fTuple e
def KeyG (H : Hp) (a : Addr) (xs : List V) : Prop := H a = some (.lst xs) ∨ TupF H a xs
theorem KeyG.same {H H' : Hp} {a : Addr} {xs : List V} (h : KeyG H a xs) (s : Same H H') : KeyG H' a xs := h.elim (fun e => .inl (s _ _ e)) fun e => .inr (e.same s)
theorem KeyG.len {H : Hp} {a : Addr} {xs : List V} (h : KeyG H a xs) : SqL K H a xs ∨ SqT K H a xs := h.elim (fun e => .inl (SqL.of e)) fun e => .inr e.sq
theorem KeyG.lf {H : Hp} {a : Addr} {xs : List V} (h : KeyG H a xs) : SqL K H a xs ∨ TupF H a xs := h.elim (fun e => .inl (SqL.of e)) fun e => .inr e
def spRowF : Sp := fun vs H Q _ => ∃ (a : Addr) (ns : List Int), vs = [.ref a] ∧ TupF H a (ns.map V.int) ∧ ns.length ≤ 12 ∧ (∀ n ∈ ns, -1000000000 ≤ n ∧ n ≤ 1000000000) ∧ ∀ H', Same H H' → Q (.ref a) H'
theorem ok_rowF (T : Tx K mg A) : FnOk P w K mg base CX0 4 A.f_row_of A.d_row_of ["row"] spRowF := by
  refine T.F_row_of.ok sc_row_of (fun vs H Q E h => ?_) (fun cdv B outer s H vs Q E hr h => ?_)
  · obtain ⟨a, ns, rfl, _⟩ := h
    rfl
  · obtain ⟨a, ns, rfl, ha, hl, hk, q⟩ := h
    obtain ⟨t, hg⟩ := cst T.c_MOST_PLACES
    refine ⟨_, pss_cons (ps_if (PW.pt (pw_or (pt_not (pt_val (pe_callB call_isiT (by rfl) T.g_isinstance (by decide +kernel) (pa_cons (pv 0) (pa_cons (pe_tup (pa_cons (pe_bltn (v := .ty "list") (by rfl) T.g_list (by decide +kernel) rfl) (pa_cons (pe_bltn (v := .ty "tuple") (by rfl) T.g_tuple (by decide +kernel) rfl) pa_nil))) pa_nil)))))
        (pw_or1 (pt_cmpR op_gt (pe_callB call_len_seq (by rfl) T.g_len PySem.boot_len (pa_cons (pv 0) pa_nil)) (pe_glob (by rfl) hg (relI _ _)) (nomark _))))) (pss_one ps_never) pss_nil)
      (C8.pss_cut (ps_for PassesOwn.never rfl (pi_enS (by rfl) T.g_enumerate (pa_cons (pv 0) pa_nil)) (pg_tup rfl (pgs_cons (pg_name (i := 1) sc_row_of.nd rfl (Or.inl rfl)) (pgs_cons (pg_name (i := 2) sc_row_of.nd rfl (Or.inl rfl)) pgs_nil)))
        (pss_one (ps_if (pt_not (pt_val (pe_call (ok_key T) hr (by rfl) T.m_is_key T.F_is_key.kp (b_key T) .nil pass0 (pa_cons (pv 2) pa_nil)))) (pss_one ps_never) pss_nil)))
      (pss_one (ps_ret (pe_callTy call_tuple_of (by rfl) T.g_tuple (by decide +kernel) (pa_cons (pv 0) pa_nil))))), ?_⟩
    refine ⟨_, rfl, by show 2 ≤ sizeLine; decide, fun tp htp => ?_⟩
    have ha1 : TupF (upd H tp (.tup [.ty "list", .ty "tuple"])) a (ns.map V.int) := ha.same (Same.up htp)
    have k2 : PySem.W.kitOne K (.type "tuple") (.type "list") = some false := kit_ty (by decide +kernel)
    refine ⟨_, tp, _, .type "tuple", [.type "list", .type "tuple"], true, rfl, upd_same, .cons (.ty _) (.cons (.ty _) .nil), tupF_ty ha1, kitAny_cons k2 (fun z => kitAny_cons (kit_ty (by decide +kernel) : _ = some true) (fun z => by cases z) (fun _ => rfl)) (fun z => by cases z), true, rfl, ?_⟩
    refine iteF ⟨_, rfl, a, _, rfl, .inr ha1.sq, _, _, rfl, rfl, _, rfl, ite2 (fun z => ?_) (fun _ => ?_)⟩
    · exfalso
      rw [List.length_map] at z
      have := of_decide_eq_true z
      omega
    refine ⟨fun σ H' => ∃ z y, σ = [some (.ref a), z, y] ∧ Same H H', ?_, ?_⟩
    · refine ⟨_, rfl, a, _, rfl, .inr ⟨ha1.sq, for_it (walk_enumT (xs := ns.map V.int)) (fun i σ H' => ∃ z y, σ = [some (.ref a), z, y] ∧ Same H H') ⟨none, none, rfl, Same.up htp⟩ (fun i σ H' _ ⟨_, _, _, s⟩ => (ha.same s).sq) ?_ ?_⟩⟩
      · rintro i v σ H2 H3 hi ⟨z, y, rfl, s⟩ ⟨T', x, x2, rfl, hT, rfl, e1, e2⟩
        obtain ⟨hi', rfl⟩ := ints_at e2
        cases e1
        refine ⟨_, _, rfl, SqT.of upd_same, rfl, _, _, rfl, _, _, rfl, rfl, ?_⟩
        refine ⟨_, rfl, _, rfl, _, rfl, ?_⟩
        rw [decide_eq_true (hk _ (List.getElem_mem hi'))]
        exact iteF ⟨_, _, rfl, s.trans (Same.up hT)⟩
      · rintro σ H2 ⟨z, y, rfl, s⟩
        exact ⟨_, _, rfl, s⟩
    · rintro σ H2 ⟨z, y, rfl, s⟩
      exact ⟨_, rfl, a, _, rfl, .inr ⟨(ha.same s).sq, q _ s⟩⟩
def spOfG (C : Addr) : Sp := fun vs H Q _ => ∃ (a w : Nat) (ns : List Int), vs = [.ref C, .ref a, .int w] ∧ (1 ≤ w ∧ w ≤ 4) ∧ KeyG H a (ns.map V.int) ∧ ns.length ≤ 12 ∧ (∀ n ∈ ns, -1000000000 ≤ n ∧ n ≤ 1000000000) ∧
  ∀ (H' : Hp) p, Same H H' → H p = none → TreeAt C H' p ns.length w → Q (.ref p) H'
theorem ok_ofF (T : Tx K mg A) : FnOk P w K mg base CX0 6 A.f_t_of A.d_t_of ["cls", "row", "arms"] (fun vs H Q _ => ∃ (a w : Nat) (ns : List Int), vs = [.ref A.C, .ref a, .int w] ∧ (1 ≤ w ∧ w ≤ 4) ∧ TupF H a (ns.map V.int) ∧ ns.length ≤ 12 ∧ (∀ n ∈ ns, -1000000000 ≤ n ∧ n ≤ 1000000000) ∧
  ∀ (H' : Hp) p, Same H H' → H p = none → TreeAt A.C H' p ns.length w → Q (.ref p) H') := by
  obtain ⟨mv, kb⟩ := kb_init T
  refine T.F_t_of.ok sc_t_of (fun vs H Q E h => ?_) (fun cdv B outer s H vs Q E hr h => ?_)
  · obtain ⟨a, w, ns, rfl, _⟩ := h
    rfl
  · obtain ⟨a, w, ns, rfl, hw, ha, hl, hk, q⟩ := h
    refine ⟨_, PSs.nox (pss_cons (ps_expr (pe_call (ok_ca T) (hr.mono (by decide)) (by rfl) T.m_check_arms T.F_check_arms.kp (b_ca T) .nil pass0 (pa_cons (pv 2) pa_nil)))
      (pss_one (ps_ret (pe_makeLK (i := 0) T.mkC (ok_init T) hr kb pass0 (pa_cons (pe_callB call_len_seq (by rfl) T.g_len PySem.boot_len (pa_cons (pe_call (ok_rowF T) (hr.mono (by decide)) (by rfl) T.m_row_of T.F_row_of.kp (b_row T) .nil pass0 (pa_cons (pv 1) pa_nil)) pa_nil)) pa_nil)
        (pk_cons (pv 2) pk_nil) rfl (Or.inl rfl))))), ?_⟩
    refine ⟨_, rfl, _, rfl, ⟨by omega, by omega⟩, rfl, _, rfl, a, ns, rfl, ha, hl, hk, fun H1 s1 => ?_⟩
    refine ⟨a, _, rfl, .inr (ha.same s1).sq, _, rfl, rfl, rfl, fun x dx nx ndx nex => ?_⟩
    refine ⟨x, dx, ns.length, w, by rw [List.length_map]; rfl, hl, hw, upd_same, fun H2 k2 t2 => ⟨rfl, q H2 x (fun b o e => k2 b o ?_ (ne_of_none (s1 _ _ e) nx)) (s1.free nx) t2⟩⟩
    rw [upd_ne (ne_of_none (s1 _ _ e) nx), upd_ne (ne_of_none (s1 _ _ e) ndx)]
    exact s1 _ _ e
theorem ok_ofG (T : Tx K mg A) : FnOk P w K mg base CX0 6 A.f_t_of A.d_t_of ["cls", "row", "arms"] (spOfG A.C) := by
  refine (FnOk.or (ok_of T) (ok_ofF T)).imp fun vs H Q E h => ?_
  obtain ⟨a, w, ns, e, hw, h, r⟩ := h
  rcases h with h | h
  · exact .inl ⟨a, w, ns, e, hw, .inl h, r⟩
  · exact .inr ⟨a, w, ns, e, hw, h, r⟩
def spFewG (K : PySem.W.Frag) : Sp := fun vs H Q _ => ∃ (r m : Nat) (xs : List V), vs = [.ref r, .int m] ∧ (SqL K H r xs ∨ SqT K H r xs) ∧ xs.length ≤ m ∧ Q .non H
theorem ok_fewG (T : Tx K mg A) : FnOk P w K mg base CX0 2 A.f_check_few A.d_check_few ["row", "most"] (spFewG K) := by
  refine T.F_check_few.ok sc_check_few (fun vs H Q E h => ?_) (fun cdv B outer s H vs Q E hr h => ?_)
  · obtain ⟨r, m, xs, rfl, _⟩ := h
    rfl
  · obtain ⟨r, m, xs, rfl, hx, hm, q⟩ := h
    refine ⟨_, (pss_one (ps_if (pt_cmpR op_gt (pe_callB call_len_seq (by rfl) T.g_len PySem.boot_len (pa_cons (pv 0) pa_nil)) (pv 1) (nomark _)) (pss_one ps_never) pss_nil)), ?_⟩
    refine ⟨_, rfl, r, _, rfl, hx, _, rfl, _, _, rfl, rfl, _, rfl, ?_⟩
    rw [decide_eq_false (by omega)]
    exact iteF q

end
end Tw

set_option Elab.async false
set_option linter.all false
set_option maxRecDepth 100000
set_option maxHeartbeats 2000000
namespace Tw
open PySem PySem.Spec PyProof.Rows L2
section
variable {P : Program} {w : World} {K : PySem.W.Frag} {mg : Str → Option Value} {base : Heap} {A : Ad}
open LamX (ExtN Tabs TabS)
theorem asc_nodup {l : List Int} (h : l.Pairwise (· < ·)) : l.Nodup := h.imp fun a => Int.ne_of_lt a
theorem asc_eq {l m : List Int} (h1 : l.Pairwise (· < ·)) (h2 : m.Pairwise (· < ·)) (h : ∀ x, x ∈ l ↔ x ∈ m) : l = m :=
  List.Perm.eq_of_pairwise (fun x y _ _ a b => absurd (Int.lt_trans a b) (Int.lt_irrefl _)) h1 h2 ((List.perm_ext_iff_of_nodup (asc_nodup h1) (asc_nodup h2)).mpr fun x => h x)
theorem b_few (T : Tx K mg A) : L2.Binds K A.d_check_few ["row", "most"] [] := T.F_check_few.binds fun _ _ _ _ _ _ us hl => match us, hl with | [_, _], _ => rfl
theorem b_iter (T : Tx K mg A) : L2.Binds K A.d_t___iter__ ["self"] [] := T.F_t___iter__.binds fun _ _ _ _ _ _ us hl => match us, hl with | [_], _ => rfl
theorem b_par (T : Tx K mg A) : L2.Binds K A.d_t_parent ["self", "place"] [] := T.F_t_parent.binds fun _ _ _ _ _ _ us hl => match us, hl with | [_, _], _ => rfl
theorem kb_of (T : Tx K mg A) : ∃ mv : List Value, KBn K A.d_t_of ["cls", "row", "arms"] 2 ["arms"] (fun us ws => us ++ (mv ++ ws)) (fun vs zs => vs ++ zs) := by
  obtain ⟨mv, h⟩ := T.F_t_of.kbinds0 (ps := ["cls", "row", "arms"]) 2 ["arms"] [] (fun us mv ws => us ++ (mv ++ ws)) (by simp) (by simp) (fun r1 r2 r3 => r1.append (r2.append r3))
    (fun D doc pm an cdv ct us mv ws h1 h2 h3 => by
      match us, mv, ws, h1, h2, h3 with
      | [a, b], [], [c], _, _, _ => rfl)
  exact ⟨mv, h⟩
theorem ok_iter (T : Tx K mg A) : FnIt P w K mg base 2 A.f_t___iter__ A.d_t___iter__ ["self"] (spIter K A.C "_places") := by
  refine fnIt_of T.F_t___iter__ sc_t___iter__ (fun cdv B outer s H vs Q hr h => ?_)
  obtain ⟨a, dx, fs, t, zs, rfl, ha, hf, ht, q⟩ := h
  refine ⟨_, pss_one (ps_ret (pe_callB call_iterT (by rfl) T.g_iter (by decide +kernel) (pa_cons (pe_fld (pv 0) rfl) pa_nil))), ?_⟩
  exact ⟨_, rfl, a, A.C, dx, _, _, rfl, ha, T.cT, T.nPl, hf, t, zs, rfl, ht, q⟩
def spCp : Sp := fun vs H Q _ => ∃ i n : Int, vs = [.int i, .int n] ∧ (0 ≤ i ∧ i < n) ∧ Q .non H
theorem ok_cp (T : Tx K mg A) : FnOk P w K mg base CX0 3 A.f_check_place A.d_check_place ["place", "many"] spCp := by
  refine T.F_check_place.ok sc_check_place (fun vs H Q E h => ?_) (fun cdv B outer s H vs Q E hr h => ?_)
  · obtain ⟨i, n, rfl, _⟩ := h
    rfl
  · obtain ⟨i, n, rfl, hi, q⟩ := h
    refine ⟨_, pss_one (ps_if (pt_not (pt_val (pe_call (ok_ii T) hr (by rfl) T.m_is_integer_from T.F_is_integer_from.kp (b_ii T) .nil pass0
      (pa_cons (pv 0) (pa_cons pe_int (pa_cons (pe_op op_sub (pv 1) pe_int) pa_nil)))))) (pss_one ps_never) pss_nil), ?_⟩
    refine ⟨_, rfl, _, rfl, _, _, rfl, rfl, _, _, _, rfl, .inl ⟨i, rfl, _, rfl, ?_⟩⟩
    rw [decide_eq_true (show 0 ≤ i ∧ i ≤ n - 1 by omega)]
    exact iteF q
theorem b_cp (T : Tx K mg A) : L2.Binds K A.d_check_place ["place", "many"] [] := T.F_check_place.binds fun _ _ _ _ _ _ us hl => match us, hl with | [_, _], _ => rfl
theorem n2 : ¬ (("many" : Str) = "_places") := by decide +kernel
theorem tf_many (n w t : Nat) : (tf n w t).lookup ("many" : Str) = some (.int n) := by
  unfold tf
  rw [lookup_putF, if_neg n2, lookup_putF, if_neg n1, lookup_putF, if_pos rfl]
theorem n3 : ¬ (("arms" : Str) = "_places") := by decide +kernel
theorem tf_arms (n w t : Nat) : (tf n w t).lookup ("arms" : Str) = some (.int w) := by
  unfold tf
  rw [lookup_putF, if_neg n3, lookup_putF, if_pos rfl]
/-- the parent as the program says it -/
def parV (w p : Nat) : V := if p = 0 then .non else .int ((p - 1) / w : Nat)
def spPar (C : Addr) : Sp := fun vs H Q _ => ∃ (p n w i : Nat), vs = [.ref p, .int i] ∧ TreeAt C H p n w ∧ i < n ∧ Q (parV w i) H
theorem ok_par (T : Tx K mg A) : FnOk P w K mg base CX0 4 A.f_t_parent A.d_t_parent ["self", "place"] (spPar A.C) := by
  refine T.F_t_parent.ok sc_t_parent (fun vs H Q E h => ?_) (fun cdv B outer s H vs Q E hr h => ?_)
  · obtain ⟨p, n, w, i, rfl, _⟩ := h
    rfl
  · obtain ⟨p, n, w, i, rfl, t, hi, q⟩ := h
    obtain ⟨dx, l, h1, h2⟩ := t.ob
    refine ⟨_, pss_cons (ps_expr (pe_call (ok_cp T) hr (by rfl) T.m_check_place T.F_check_place.kp (b_cp T) .nil pass0 (pa_cons (pv 1) (pa_cons (pe_fld (pv 0) rfl) pa_nil))))
      (pss_cons (ps_if (pt_cmpR op_eq (pv 1) pe_int (nomark _)) (pss_one (ps_ret pe_non)) pss_nil)
      (pss_one (ps_ret (pe_op op_fdivN (pe_op op_sub (pv 1) pe_int) (pe_fld (pv 0) rfl))))), ?_⟩
    refine ⟨_, rfl, _, rfl, p, A.C, dx, _, _, rfl, h1, T.cT, T.nMany, tf_many _ _ _, _, _, rfl, ⟨by omega, by omega⟩, ?_⟩
    refine ⟨_, rfl, rfl, _, rfl, ?_⟩
    by_cases h0 : i = 0
    · rw [decide_eq_true (show V.int (i : Nat) = V.int 0 by rw [h0]; rfl)]
      refine iteT ?_
      unfold parV at q
      rw [if_pos h0] at q
      exact q
    · rw [decide_eq_false (show ¬ V.int (i : Nat) = V.int 0 by intro z; injection z with z; omega)]
      refine iteF ?_
      refine ⟨_, rfl, _, _, rfl, rfl, _, rfl, p, A.C, dx, _, _, rfl, h1, T.cT, T.nArms, tf_arms _ _ _, _, _, rfl, rfl, ⟨by have := t.hw; omega, by have := t.hw; omega⟩, ?_⟩
      unfold parV at q
      rw [if_neg h0] at q
      have e : Int.fdiv ((i : Int) - 1) (w : Int) = ((i - 1) / w : Nat) := by
        rw [Int.fdiv_eq_ediv_of_nonneg _ (by omega), show ((i : Int) - 1) = ((i - 1 : Nat) : Int) by omega]
        rfl
      show Q (V.int (Int.fdiv ((i : Int) - 1) (w : Int))) H
      rw [e]
      exact q
theorem plAt {n i : Nat} {x : V} (h : (pl n)[i]? = some x) : i < n ∧ x = V.int (i : Nat) := by
  unfold pl at h
  rw [List.getElem?_map] at h
  by_cases hi : i < n
  · rw [List.getElem?_range hi] at h
    exact ⟨hi, (Option.some.inj h).symm⟩
  · rw [List.getElem?_eq_none (by rw [List.length_range]; omega)] at h
    cases h
theorem pl_len (n : Nat) : (pl n).length = n := by unfold pl; rw [List.length_map, List.length_range]
theorem tf_no (n w t : Nat) {m : Str} (h1 : ¬ m = "many") (h2 : ¬ m = "arms") (h3 : ¬ m = "_places") : (tf n w t).lookup m = none := by
  unfold tf
  rw [lookup_putF, if_neg h3, lookup_putF, if_neg h2, lookup_putF, if_neg h1]
  rfl
theorem tf_pl (n w t : Nat) : (tf n w t).lookup ("_places" : Str) = some (.ref t) := by
  unfold tf
  rw [lookup_putF, if_pos rfl]
end
end Tw

set_option Elab.async false
set_option linter.all false
set_option maxRecDepth 100000
set_option maxHeartbeats 2000000
namespace Tw
open PySem PySem.Spec PyProof.Rows L2
section
variable {P : Program} {w : World} {K : PySem.W.Frag} {mg : Str → Option Value} {base : Heap} {A : Ad}
open LamX (ExtN Tabs TabS)
/-! closed sets as numbers -/
theorem os_bor (a b : Nat) : Builtin.bitOr (a : Int) (b : Int) = ((a ||| b : Nat) : Int) := by
  have nn : ∀ x : Int, Builtin.bitNot (Builtin.bitNot x) = x := fun x => by unfold Builtin.bitNot; omega
  have h1 : decide (0 ≤ Builtin.bitNot (a : Int)) = false := decide_eq_false (by unfold Builtin.bitNot; omega)
  have h2 : decide (0 ≤ Builtin.bitNot (b : Int)) = false := decide_eq_false (by unfold Builtin.bitNot; omega)
  unfold Builtin.bitOr Builtin.bitAnd
  rw [h1, h2]
  simp only [nn, Int.toNat_natCast]
abbrev NP := List (Nat × Nat)
def okS (w i m : Nat) : Bool := decide (i = 0) || m.testBit ((i - 1) / w)
def szAdd (w i : Nat) (x : Nat × Nat) : Option (Nat × Nat) := if okS w i x.1 then some (x.1 + 2 ^ i, x.2 + 1) else none
def szL (w : Nat) : Nat → NP
  | 0 => [(0, 0)]
  | i + 1 => szL w i ++ (szL w i).filterMap (szAdd w i)
def ent (x : Nat × Nat) : Key × V := (Sum.inl (x.1 : Int), V.int (x.2 : Nat))
abbrev dkO (l : NP) : HO := .dK (l.map ent)
theorem val_ent : ∀ (l : NP) (x : Nat × Nat), x ∈ l → (l.map (·.1)).Nodup → valV (l.map ent) (Sum.inl (x.1 : Int)) = some (V.int (x.2 : Nat))
  | y :: l, x, hx, hd => by
    rw [List.map_cons, List.nodup_cons] at hd
    unfold valV
    rw [List.map_cons, List.find?_cons]
    by_cases h : y.1 = x.1
    · have e : decide ((ent y).1 = (Sum.inl (x.1 : Int) : Key)) = true := decide_eq_true (by unfold ent; rw [h])
      rw [e]
      rcases List.mem_cons.mp hx with rfl | hx
      · rfl
      · exact absurd (List.mem_map.mpr ⟨x, hx, rfl⟩) (h ▸ hd.1)
    · have e : decide ((ent y).1 = (Sum.inl (x.1 : Int) : Key)) = false := decide_eq_false fun z => h (by unfold ent at z; injection z with z; omega)
      rw [e]
      have hx : x ∈ l := (List.mem_cons.mp hx).resolve_left fun z => h (by rw [z])
      exact val_ent l x hx hd.2
theorem put_ent (l : NP) (m c : Nat) (h : m ∉ l.map (·.1)) : putK (l.map ent) (Sum.inl (m : Int)) (V.int (c : Nat)) = (l ++ [(m, c)]).map ent := by
  unfold putK
  have e : ((l.map ent).any fun kv => decide (kv.1 = (Sum.inl (m : Int) : Key))) = false := by
    rw [List.any_eq_false]
    intro kv hkv hz
    obtain ⟨x, hx, rfl⟩ := List.mem_map.mp hkv
    have z := of_decide_eq_true hz
    unfold ent at z
    injection z with z
    exact h (List.mem_map.mpr ⟨x, hx, by omega⟩)
  rw [e, if_neg Bool.false_ne_true, List.map_append]
  rfl
theorem sz_lt (w : Nat) : ∀ i, ∀ x ∈ szL w i, x.1 < 2 ^ i ∧ x.2 ≤ i
  | 0, x, h => by rw [List.mem_singleton.mp h]; exact ⟨by decide, Nat.le_refl _⟩
  | i + 1, x, h => by
    rcases List.mem_append.mp h with h | h
    · obtain ⟨a, b⟩ := sz_lt w i x h
      exact ⟨by rw [Nat.pow_succ]; omega, by omega⟩
    · obtain ⟨y, hy, e⟩ := List.mem_filterMap.mp h
      obtain ⟨a, b⟩ := sz_lt w i y hy
      unfold szAdd at e
      split at e
      · cases e
        exact ⟨by rw [Nat.pow_succ]; show y.1 + 2 ^ i < _; omega, by show y.2 + 1 ≤ _; omega⟩
      · cases e
theorem fm_len {α β : Type} (f : α → Option β) : ∀ l : List α, (l.filterMap f).length ≤ l.length
  | [] => Nat.le_refl _
  | a :: l => by
    rw [List.filterMap_cons]
    have := fm_len f l
    split <;> simp only [List.length_cons] <;> omega
theorem sz_len (w : Nat) : ∀ i, (szL w i).length ≤ 2 ^ i
  | 0 => Nat.le_refl _
  | i + 1 => by
    have := sz_len w i
    have h := fm_len (szAdd w i) (szL w i)
    show (szL w i ++ _).length ≤ _
    rw [List.length_append, Nat.pow_succ]
    omega
theorem add_fst {w i : Nat} {x y : Nat × Nat} (h : szAdd w i x = some y) : y.1 = x.1 + 2 ^ i := by
  unfold szAdd at h
  split at h
  · cases h
    rfl
  · cases h
theorem nodup_add (w i : Nat) : ∀ l : NP, (∀ x ∈ l, x.1 < 2 ^ i) → (l.map (·.1)).Nodup → ∀ j, ((l ++ (l.take j).filterMap (szAdd w i)).map (·.1)).Nodup := fun l hb hd j => by
  rw [List.map_append]
  refine List.nodup_append.mpr ⟨hd, ?_, ?_⟩
  · have hdj : ((l.take j).map (·.1)).Nodup := by
      rw [List.map_take]
      exact (List.take_sublist j _).nodup hd
    clear hb hd
    generalize l.take j = l at hdj
    induction l with
    | nil => exact List.nodup_nil
    | cons x l ih =>
      rw [List.map_cons, List.nodup_cons] at hdj
      rw [List.filterMap_cons]
      split
      · exact ih hdj.2
      · rename_i y e
        rw [List.map_cons, List.nodup_cons]
        refine ⟨fun z => ?_, ih hdj.2⟩
        obtain ⟨u, hu, eu⟩ := List.mem_map.mp z
        obtain ⟨v, hv, ev⟩ := List.mem_filterMap.mp hu
        have h1 := add_fst e
        have h2 := add_fst ev
        exact hdj.1 (List.mem_map.mpr ⟨v, hv, by omega⟩)
  · intro a ha b hb2 e
    obtain ⟨x, hx, rfl⟩ := List.mem_map.mp ha
    obtain ⟨u, hu, rfl⟩ := List.mem_map.mp hb2
    obtain ⟨v, hv, ev⟩ := List.mem_filterMap.mp hu
    have h1 := hb x hx
    have h2 := add_fst ev
    omega
theorem sz_nodup (w : Nat) : ∀ i, ((szL w i).map (·.1)).Nodup
  | 0 => List.nodup_cons.mpr ⟨by simp, List.nodup_nil⟩
  | i + 1 => by
    have := nodup_add w i (szL w i) (fun x hx => (sz_lt w i x hx).1) (sz_nodup w i) (szL w i).length
    rw [List.take_length] at this
    exact this
theorem pow12 {i : Nat} (h : i ≤ 12) : 2 ^ i ≤ 4096 := Nat.le_trans (Nat.pow_le_pow_right (by decide) h) (by decide)
theorem sz_small {w i : Nat} (h : i ≤ 12) : (szL w i).length ≤ 4096 := Nat.le_trans (sz_len w i) (pow12 h)
theorem shl_one (j : Nat) : (1 : Int) * 2 ^ ((j : Int)).toNat = ((2 ^ j : Nat) : Int) := by
  rw [Int.toNat_natCast, Int.one_mul, Int.natCast_pow]
  rfl
theorem ok_bit {w i m : Nat} (h : i ≠ 0) : (Builtin.bitAnd (m : Int) ((2 ^ ((i - 1) / w) : Nat) : Int) != 0) = okS w i m := by
  have hb : m &&& 2 ^ ((i - 1) / w) = if m.testBit ((i - 1) / w) then 2 ^ ((i - 1) / w) else 0 := by
    refine Nat.eq_of_testBit_eq fun j => ?_
    rw [Nat.testBit_and, Nat.testBit_two_pow]
    by_cases e : (i - 1) / w = j
    · subst e
      cases m.testBit ((i - 1) / w) <;> simp
    · rw [decide_eq_false e, Bool.and_false]
      split
      · rw [Nat.testBit_two_pow, decide_eq_false e]
      · simp
  rw [PySem.W.os_band, hb]
  unfold okS
  rw [decide_eq_false h, Bool.false_or]
  have hp : 0 < 2 ^ ((i - 1) / w) := Nat.pow_pos (by decide)
  cases e : m.testBit ((i - 1) / w) with
  | false => simp
  | true =>
    rw [if_pos rfl]
    exact bne_iff_ne.mpr (by omega)
theorem or_pow {m i : Nat} (h : m < 2 ^ i) : m ||| 2 ^ i = m + 2 ^ i := by
  have := Nat.two_pow_add_eq_or_of_lt h 1
  rw [Nat.mul_one] at this
  rw [Nat.or_comm, ← this, Nat.add_comm]
/-! closed_sizes -/
def spCs (C : Addr) : Sp := fun vs H Q _ => ∃ (x n w : Nat), vs = [.ref x] ∧ TreeAt C H x n w ∧ ∀ (H' : Hp) (q : Addr), Same H H' → H q = none → H' q = some (dkO (szL w n)) → Q (.ref q) H'
theorem ok_cs (T : Tx K mg A) : FnOk P w K mg base CX0 8 A.f_closed_sizes A.d_closed_sizes ["tree"] (spCs A.C) := by
  refine T.F_closed_sizes.ok sc_closed_sizes (fun vs H Q E h => ?_) (fun cdv B outer s H vs Q E hr h => ?_)
  · obtain ⟨x, n, w, rfl, _⟩ := h
    rfl
  · obtain ⟨x, n, w, rfl, t, q⟩ := h
    have nd := sc_closed_sizes.nd
    have hd1 := hu_of hr
    have hn := t.hn
    have hw := t.hw
    refine ⟨_, (pss_cons (ps_set (i := 1) nd rfl (Or.inl rfl) (pe_disp (pps_cons pe_int pe_int pps_nil) rfl rfl (by simp) (by decide)))
      (C8.pss_cut (ps_for PassesOwn.never rfl (pi_own T.D_t___iter__ (ok_iter T) (hr.mono (by decide)) (b_iter T) (pv 0)) (pg_name (i := 2) nd rfl (Or.inl rfl)) (pss_one (ps_for PassesOwn.never rfl (pi_list (pe_callTy (call_list_dK rfl) (by rfl) T.g_list (by decide +kernel) (pa_cons (pv 1) pa_nil))) (pg_name (i := 3) nd rfl (Or.inl rfl)) (pss_one (ps_if (PW.pt (pw_or (pt_cmpR op_eq (pv 2) pe_int (nomark _)) (pw_or1 (pt_truth (pe_op op_and (pv 3) (pe_op op_shl pe_int (pe_meth (pv 0) T.cT T.M_t_parent (ok_par T) (hr.mono (by decide)) (b_par T) .nil pass0 (pa_cons (pv 2) pa_nil)))) (fun _ => rfl))))) (pss_one (ps_dput hd1 (pv 1) (pe_op op_or (pv 3) (pe_op op_shl pe_int (pv 2))) (pe_op op_add (pe_dget hd1 (pv 1) (pv 3) (fun _ _ => rfl)) pe_int) rfl)) pss_nil)))))
      (pss_one (ps_ret (pv 1))))), ?_⟩
    refine fun D nD => ⟨upd_same, [(Sum.inl 0, V.int 0)], rfl, by decide, ?_⟩
    rw [upd_upd]
    have s1 := Same.up (o := dkO (szL w 0)) nD
    have eD := upd_same (H := H) (a := D) (o := dkO (szL w 0))
    rw [show mergeK [] [((Sum.inl 0 : Key), V.int 0)] = (szL w 0).map ent from rfl]
    have t1 := t.same s1
    obtain ⟨dx, l, h1, h2⟩ := id t1.ob
    generalize upd H D (dkO (szL w 0)) = H1 at s1 eD t1 h1 h2
    refine ⟨fun σ' H' => (∃ x2 x3 : Option V, σ' = [some (.ref x), some (.ref D), x2, x3]) ∧ Same H H' ∧ H' D = some (dkO (szL w n)), ?_, ?_⟩
    · refine ⟨_, rfl, x, dx, _, l, _, rfl, h1, tf_pl _ _ _, SqT.of h2, ?_⟩
      refine for_it (walk_tup (xs := pl n)) (fun i σ' H' => (∃ x2 x3 : Option V, σ' = [some (.ref x), some (.ref D), x2, x3]) ∧ Same H H' ∧ H' x = some (.ins A.C dx (tf n w l)) ∧ H' l = some (.tup (pl n)) ∧ H' D = some (dkO (szL w i)))
        ⟨⟨_, _, rfl⟩, s1, h1, h2, eD⟩ (fun i σ' H' _ h => SqT.of h.2.2.2.1) ?_ ?_
      · rintro i y σ' H2o H2 hi ⟨⟨x2, x3, rfl⟩, s2, g1, g2, eD2⟩ ⟨rfl, hy⟩
        obtain ⟨hi2, rfl⟩ := plAt hy
        have noP : (tf n w l).lookup ("parent" : Str) = none := tf_no _ _ _ (by decide +kernel) (by decide +kernel) (by decide +kernel)
        refine ⟨_, rfl, D, _, rfl, eD2, fun k nk => ?_⟩
        have sk := Same.up (o := .lst (((szL w i).map ent).map fun kv => kV kv.1)) nk
        have ek := upd_same (H := H2) (a := k) (o := .lst (((szL w i).map ent).map fun kv => kV kv.1))
        have hll : (((szL w i).map ent).map fun kv => kV kv.1).length = (szL w i).length := by rw [List.length_map, List.length_map]
        have nkD : k ≠ D := fun z => by rw [z, eD2] at nk; cases nk
        have nkx : k ≠ x := fun z => by rw [z, g1] at nk; cases nk
        have nkl : k ≠ l := fun z => by rw [z, g2] at nk; cases nk
        have s3 := s2.trans sk
        have g1' := sk _ _ g1
        have g2' := sk _ _ g2
        have eD3 := sk _ _ eD2
        have nk0 := s2.free nk
        generalize upd H2 k (.lst (((szL w i).map ent).map fun kv => kV kv.1)) = H3 at s3 ek g1' g2' eD3
        refine ⟨k, rfl, ⟨_, SqL.of ek⟩, ?_⟩
        refine for_it (walk_list (xs := ((szL w i).map ent).map fun kv => kV kv.1)) (fun j σ' H' => (∃ x3 : Option V, σ' = [some (.ref x), some (.ref D), some (.int (i : Nat)), x3]) ∧ Same H H' ∧ H' x = some (.ins A.C dx (tf n w l)) ∧ H' l = some (.tup (pl n)) ∧ H' k = some (.lst (((szL w i).map ent).map fun kv => kV kv.1)) ∧ H' D = some (dkO (szL w i ++ ((szL w i).take j).filterMap (szAdd w i))))
          ⟨⟨_, rfl⟩, s3, g1', g2', ek, by rw [List.take_zero]; simpa using eD3⟩ (fun j σ' H' _ h => SqL.of h.2.2.2.2.1) ?_ ?_
        · rintro j y σ' H4o H4 hj ⟨⟨x3', rfl⟩, s4, g14, g24, ek4, eD4⟩ ⟨rfl, hy⟩
          rw [hll] at hj
          obtain ⟨m, c, emc⟩ : ∃ m c, (szL w i)[j] = (m, c) := ⟨_, _, rfl⟩
          have hmem : (m, c) ∈ szL w i := emc ▸ List.getElem_mem hj
          obtain ⟨hm, hc⟩ := sz_lt w i _ hmem
          have hm : m < 2 ^ i := hm
          rw [List.getElem?_map, List.getElem?_map, List.getElem?_eq_getElem hj, emc] at hy
          cases hy
          have hnod := nodup_add w i (szL w i) (fun x hx => (sz_lt w i x hx).1) (sz_nodup w i)
          have happ : ((szL w i).take (j + 1)).filterMap (szAdd w i) = ((szL w i).take j).filterMap (szAdd w i) ++ [(m, c)].filterMap (szAdd w i) := by
            rw [← List.take_append_getElem hj, List.filterMap_append, emc]
          have hlen : (szL w i ++ ((szL w i).take j).filterMap (szAdd w i)).length ≤ 8192 := by
            have a := sz_small (w := w) (i := i) (by omega)
            have b := fm_len (szAdd w i) ((szL w i).take j)
            rw [List.length_take] at b
            rw [List.length_append]
            omega
          have hget : DGet H4 D (V.int (m : Int)) (some (V.int (c : Nat))) := by
            have := DGet.k (k := Sum.inl (m : Int)) eD4
            rw [val_ent _ (m, c) (List.mem_append_left _ hmem) (hnod j)] at this
            exact this
          have yes : okS w i m = true → [(m, c)].filterMap (szAdd w i) = [(m + 2 ^ i, c + 1)] := fun h => by
            rw [List.filterMap_cons, show szAdd w i (m, c) = some (m + 2 ^ i, c + 1) by unfold szAdd; rw [if_pos h]]
            rfl
          have no : okS w i m = false → [(m, c)].filterMap (szAdd w i) = [] := fun h => by
            rw [List.filterMap_cons, show szAdd w i (m, c) = none by unfold szAdd; rw [h]; rfl]
            rfl
          have new : okS w i m = true → m + 2 ^ i ∉ (szL w i ++ ((szL w i).take j).filterMap (szAdd w i)).map (·.1) := fun h => by
            have z := hnod (j + 1)
            rw [happ, yes h, ← List.append_assoc, List.map_append] at z
            exact fun y => (List.nodup_append.mp z).2.2 _ y _ (List.mem_singleton.mpr rfl) rfl
          by_cases h0 : i = 0
          · have hok : okS w i m = true := by unfold okS; rw [decide_eq_true h0]; rfl
            have e1 := yes hok
            have hnew := new hok
            refine ⟨_, rfl, rfl, _, rfl, ?_⟩
            rw [decide_eq_true (show V.int (i : Int) = V.int 0 by rw [h0]; rfl)]
            refine iteT (iteT ⟨_, rfl, _, rfl, D, _, rfl, hget, _, _, rfl, rfl, _, rfl, _, rfl, _, rfl, _, _, rfl, rfl, ⟨by omega, by omega, by decide⟩, _, _, rfl, rfl, ?_⟩)
            try dsimp only
            rw [shl_one, os_bor, or_pow hm]
            refine ⟨D, _, rfl, DPut.k (k := Sum.inl ((m + 2 ^ i : Nat) : Int)) eD4 (by rw [List.length_map, sizeLine_eq]; omega), ⟨_, rfl⟩, ?_⟩
            have hput : putK ((szL w i ++ ((szL w i).take j).filterMap (szAdd w i)).map ent) (Sum.inl ((m + 2 ^ i : Nat) : Int)) (V.int ((c : Int) + 1)) = (szL w i ++ ((szL w i).take (j + 1)).filterMap (szAdd w i)).map ent := by
              rw [show V.int ((c : Int) + 1) = V.int ((c + 1 : Nat) : Int) from rfl, put_ent _ _ _ hnew, happ, e1, List.append_assoc]
            rw [hput]
            refine ⟨fun b o e => ?_, by rw [upd_ne (ne_of g14 eD4 (by intro z; cases z))]; exact g14, by rw [upd_ne (ne_of g24 eD4 (by intro z; cases z))]; exact g24, by rw [upd_ne nkD]; exact ek4, upd_same⟩
            rw [upd_ne (ne_of_none e nD)]
            exact s4 b o e
          · refine ⟨_, rfl, rfl, _, rfl, ?_⟩
            rw [decide_eq_false (show ¬ V.int (i : Int) = V.int 0 by intro z; injection z with z; omega)]
            refine iteF ⟨_, rfl, _, rfl, x, dx, _, rfl, g14, noP, _, rfl, x, n, w, i, rfl, ⟨⟨dx, l, g14, g24⟩, t.hn, t.hw⟩, hi2, ?_⟩
            rw [show parV w i = V.int (((i - 1) / w : Nat) : Int) by unfold parV; rw [if_neg h0]]
            have hd := Nat.div_le_self (i - 1) w
            refine ⟨_, _, rfl, rfl, ⟨Int.natCast_nonneg _, Int.ofNat_le.mpr (by omega : (i - 1) / w ≤ 1000000), by decide⟩, _, _, rfl, rfl, _, rfl, ?_⟩
            try dsimp only
            rw [shl_one, ok_bit h0]
            cases hok : okS w i m with
            | true =>
              have e1 := yes hok
              have hnew := new hok
              refine iteT ⟨_, rfl, _, rfl, D, _, rfl, hget, _, _, rfl, rfl, _, rfl, _, rfl, _, rfl, _, _, rfl, rfl, ⟨by omega, by omega, by decide⟩, _, _, rfl, rfl, ?_⟩
              try dsimp only
              rw [shl_one, os_bor, or_pow hm]
              refine ⟨D, _, rfl, DPut.k (k := Sum.inl ((m + 2 ^ i : Nat) : Int)) eD4 (by rw [List.length_map, sizeLine_eq]; omega), ⟨_, rfl⟩, ?_⟩
              have hput : putK ((szL w i ++ ((szL w i).take j).filterMap (szAdd w i)).map ent) (Sum.inl ((m + 2 ^ i : Nat) : Int)) (V.int ((c : Int) + 1)) = (szL w i ++ ((szL w i).take (j + 1)).filterMap (szAdd w i)).map ent := by
                rw [show V.int ((c : Int) + 1) = V.int ((c + 1 : Nat) : Int) from rfl, put_ent _ _ _ hnew, happ, e1, List.append_assoc]
              rw [hput]
              refine ⟨fun b o e => ?_, by rw [upd_ne (ne_of g14 eD4 (by intro z; cases z))]; exact g14, by rw [upd_ne (ne_of g24 eD4 (by intro z; cases z))]; exact g24, by rw [upd_ne nkD]; exact ek4, upd_same⟩
              rw [upd_ne (ne_of_none e nD)]
              exact s4 b o e
            | false =>
              refine iteF ⟨⟨_, rfl⟩, s4, g14, g24, ek4, ?_⟩
              rw [happ, no hok, List.append_nil]
              exact eD4
        · rintro σ' H4 ⟨⟨x3', rfl⟩, s4, g14, g24, _, eD4⟩
          rw [hll, List.take_length] at eD4
          exact ⟨⟨_, _, rfl⟩, s4, g14, g24, eD4⟩
      · rintro σ' H2 ⟨⟨x2, x3, rfl⟩, s2, _, _, eD2⟩
        rw [pl_len] at eD2
        exact ⟨⟨_, _, rfl⟩, s2, eD2⟩
    · rintro σ' H2 ⟨⟨x2, x3, rfl⟩, s2, eD2⟩
      exact ⟨_, rfl, q H2 D s2 nD eD2⟩
theorem b_cs (T : Tx K mg A) : L2.Binds K A.d_closed_sizes ["tree"] [] := T.F_closed_sizes.binds fun _ _ _ _ _ _ us hl => match us, hl with | [_], _ => rfl
/-! chains_to -/
def ctL (C : NP) (m : Nat) : Nat := ((C.filter fun x => decide (x.1 &&& m = x.1)).map (·.2)).sum
theorem sum_nat : ∀ l : List Nat, (l.map fun c => ((c : Nat) : Int)).sum = ((l.sum : Nat) : Int)
  | [] => rfl
  | a :: l => by
    rw [List.map_cons, List.sum_cons, sum_nat l, List.sum_cons]
    omega
def spCt : Sp := fun vs H Q _ => ∃ (m d : Nat) (C : NP), vs = [.int m, .ref d] ∧ H d = some (dkO C) ∧ (C.map (·.1)).Nodup ∧ C.length ≤ 4096 ∧ ∀ H', Same H H' → Q (.int (ctL C m : Nat)) H'
theorem ok_ct (T : Tx K mg A) : FnOk P w K mg base CX0 1 A.f_chains_to A.d_chains_to ["places", "chains"] spCt := by
  refine T.F_chains_to.ok sc_chains_to (fun vs H Q E h => ?_) (fun cdv B outer s H vs Q E hr h => ?_)
  · obtain ⟨m, d, C, rfl, _⟩ := h
    rfl
  · obtain ⟨m, d, C, rfl, hC, hnd, hlen, q⟩ := h
    have nd := sc_chains_to.nd
    have hd1 := hu_of hr
    refine ⟨_, (pss_one (ps_ret (pe_callB (cr_sum rfl) (by rfl) T.g_sum (by decide +kernel) (pa_cons (pe_lock (pe_lc (own := [("before", 2)]) (g := gName 2) rfl nd (pi_keys (pv 1)) (blkOk_by (own := [("before", 2)]) (N := ["places", "chains", "before"]) (sc := (defScope s_chains_to)) (by decide +kernel)) (fun _ _ _ _ _ => pg_name (i := 2) nd rfl (Or.inl rfl)) (fun _ _ _ _ _ => pts_one (pt_cmpR op_eq (pe_op op_and (pv 2) (pv 0)) (pv 2) (nomark _))) (fun _ _ _ _ _ => (pe_dget hd1 (pv 1) (pv 2) (fun _ _ => rfl))))) pa_nil)))), ?_⟩
    refine ⟨d, _, hC, trivial, fun od => ?_⟩
    have eL := upd_same (H := H) (a := d) (o := .frz od (dkO C))
    refine ⟨_, rfl, d, od, rfl, .inl ⟨_, eL, fun D nD => ?_⟩⟩
    have hDd : D ≠ d := fun z => by rw [z, eL] at nD; cases nD
    refine lc_it (walk_keys (kvs := C.map ent)) (fun i H' => Acc (upd H d (.frz od (dkO C))) D ((((C.take i).filter fun x => decide (x.1 &&& m = x.1)).map fun x => ((x.2 : Nat) : Int)).map V.int) H') (Acc.start nD) (fun i H' _ ac => ac.s _ _ eL) ?_ ?_
    · rintro i y H4o H4 hi ac ⟨rfl, k, v, hk, rfl⟩
      rw [List.length_map] at hi
      obtain ⟨b, c, ebc⟩ : ∃ b c, C[i] = (b, c) := ⟨_, _, rfl⟩
      have hmem : (b, c) ∈ C := ebc ▸ List.getElem_mem hi
      rw [List.getElem?_map, List.getElem?_eq_getElem hi, ebc] at hk
      cases hk
      refine ⟨rfl, _, rfl, _, rfl, _, _, rfl, rfl, _, rfl, rfl, _, rfl, ?_⟩
      have et : (C.take (i + 1)).filter (fun x => decide (x.1 &&& m = x.1)) = (C.take i).filter (fun x => decide (x.1 &&& m = x.1)) ++ if b &&& m = b then [(b, c)] else [] := by
        rw [← List.take_append_getElem hi, List.filter_append, ebc, List.filter_cons]
        by_cases e : b &&& m = b
        · rw [if_pos e, if_pos (decide_eq_true e)]
          rfl
        · rw [if_neg e, if_neg (by rw [decide_eq_false e]; exact Bool.false_ne_true)]
          rfl
      rw [et]
      have ed : decide (V.int (Builtin.bitAnd (b : Int) (m : Int)) = V.int (b : Int)) = decide (b &&& m = b) := by
        rw [PySem.W.os_band]
        by_cases e : b &&& m = b
        · rw [decide_eq_true e, e, decide_eq_true rfl]
        · rw [decide_eq_false e, decide_eq_false fun z => e (by injection z with z; omega)]
      refine ite_b (show _ = decide (b &&& m = b) from ed) ?_
      by_cases e : b &&& m = b
      · rw [decide_eq_true e, if_pos e]
        have hget : DGet H4 d (V.int (b : Int)) (some (V.int (c : Nat))) := by
          rw [← val_ent C (b, c) hmem hnd]
          exact .inl ⟨_, Sum.inl (b : Int), .inr ⟨_, ac.s _ _ eL⟩, rfl, rfl⟩
        refine iteT ⟨_, rfl, _, rfl, d, _, rfl, hget, _, ac.a, ?_, ?_⟩
        · have h1 := List.length_filter_le (fun x => decide (x.1 &&& m = x.1)) (C.take i)
          rw [List.length_take] at h1
          rw [List.length_map, List.length_map, sizeLine_eq]
          omega
        · rw [List.map_append, List.map_append]
          exact ac.push
      · rw [decide_eq_false e, if_neg e, List.append_nil]
        exact iteF ac
    · intro H' ac
      rw [List.length_map, List.take_length] at ac
      refine ⟨ac.s _ _ eL, ?_⟩
      have s1 := same_lock hC ac.s
      refine ⟨D, _, rfl, SqL.of (by rw [upd_ne hDd]; exact ac.a), ?_⟩
      have := q _ s1
      unfold ctL at this
      rw [← sum_nat, List.map_map] at this
      exact this
theorem b_ct (T : Tx K mg A) : L2.Binds K A.d_chains_to ["places", "chains"] [] := T.F_chains_to.binds fun _ _ _ _ _ _ us hl => match us, hl with | [_, _], _ => rfl
/-! how_many_of -/
def hmS (S : NP) (h : Nat) (C : NP) : NP := (S.filter fun x => decide (x.2 = h)).map fun x => (x.1, ctL C x.1)
/-- by the counts of the different keys, ascending -/
def hmC (S : NP) : List Nat → Nat → NP → NP
  | [], _, C => C
  | g :: gs, h, C => hmC S gs (h + g) (hmS S (h + g) C)
def hmN (n w : Nat) (gs : List Nat) : Nat := ((hmC (szL w n) gs 0 [(0, 1)]).map (·.2)).sum
/-- the counts of the different keys -/
def grp (vs ks : List Int) : List Nat := vs.map fun v => ks.count v
def Asc (vs ks : List Int) : Prop := vs.Pairwise (· < ·) ∧ ∀ x, x ∈ vs ↔ x ∈ ks
theorem hmS_nodup {w n h : Nat} {C : NP} : ((hmS (szL w n) h C).map (·.1)).Nodup := by
  unfold hmS
  rw [List.map_map]
  exact ((List.filter_sublist).map _).nodup (sz_nodup w n)
theorem hmS_len {w n h : Nat} {C : NP} (hn : n ≤ 12) : (hmS (szL w n) h C).length ≤ 4096 := by
  unfold hmS
  rw [List.length_map]
  exact Nat.le_trans (List.length_filter_le _ _) (sz_small hn)
theorem hmC_append (S : NP) : ∀ (a : List Nat) (g h : Nat) (C : NP), hmC S (a ++ [g]) h C = hmS S (h + a.sum + g) (hmC S a h C)
  | [], g, h, C => by show hmS S (h + g) C = _; rw [List.sum_nil]; rfl
  | x :: a, g, h, C => by
    show hmC S (a ++ [g]) (h + x) _ = hmS S (h + (x :: a).sum + g) (hmC S a (h + x) _)
    rw [hmC_append S a g, List.sum_cons, ← Nat.add_assoc h]
theorem hmC_ok {w n : Nat} (hn : n ≤ 12) : ∀ (gs : List Nat) (h : Nat) (C : NP), (C.map (·.1)).Nodup ∧ C.length ≤ 4096 → ((hmC (szL w n) gs h C).map (·.1)).Nodup ∧ (hmC (szL w n) gs h C).length ≤ 4096
  | [], _, _, hC => hC
  | g :: gs, h, C, _ => hmC_ok hn gs (h + g) _ ⟨hmS_nodup, hmS_len hn⟩
def spHmo : Sp := fun vs H Q _ => ∃ (r w : Nat) (ks us : List Int), vs = [.ref r, .int w] ∧ (1 ≤ w ∧ w ≤ 4) ∧ KeyG H r (ks.map V.int) ∧ ks.length ≤ 10 ∧ (∀ z ∈ ks, -1000000000 ≤ z ∧ z ≤ 1000000000) ∧ Asc us ks ∧
  ∀ H', Same H H' → Q (.int (hmN ks.length w (grp us ks) : Nat)) H'
theorem ok_hmo {wd : World} (T : Tx K mg A) : FnOk P wd K mg base CX0 9 A.f_how_many_of A.d_how_many_of ["keys", "arms"] spHmo := by
  obtain ⟨mo, ko⟩ := kb_of T
  refine T.F_how_many_of.ok sc_how_many_of (fun vs H Q E h => ?_) (fun cdv B outer s H vs Q E hr h => ?_)
  · obtain ⟨r, w, ks, us, rfl, _⟩ := h
    rfl
  · obtain ⟨r, w, ks, us, rfl, hw, hrow, hkl, hkb, hus, q⟩ := h
    have nd := sc_how_many_of.nd
    have hd1 := hu_of hr
    have hu2 : (B.deeper (envOfC "how_many_of" (defScope s_how_many_of) s.heap.objs.size A.f_how_many_of cdv)).units + 65 < cLine := by have := hr.un; omega
    obtain ⟨t, hg⟩ := cst T.c_MOST_KEYS
    refine ⟨_, PSs.nox (pss_cons (ps_set (i := 2) nd rfl (Or.inl rfl) (pe_cmethK (pe_glob (v := .ref A.C) (by rfl) T.mC (relR _)) T.cr T.cof (ok_ofG T) (hr.mono (by decide)) ko pass0 (pa_cons (pv 0) pa_nil) (pk_cons (pv 1) pk_nil)))
      (pss_cons (ps_expr (pe_call (ok_fewG T) (hr.mono (by decide)) (by rfl) T.m_check_few T.F_check_few.kp (b_few T) .nil pass0 (pa_cons (pv 0) (pa_cons (pe_glob (by rfl) hg (relI _ _)) pa_nil))))
      (pss_cons (ps_set (i := 3) nd rfl (Or.inr rfl) (pe_call (ok_cs T) (hr.mono (by decide)) (by rfl) T.m_closed_sizes T.F_closed_sizes.kp (b_cs T) .nil pass0 (pa_cons (pv 2) pa_nil)))
      (pss_cons (ps_set (i := 4) nd rfl (Or.inr rfl) (pe_disp (pps_cons pe_int pe_int pps_nil) rfl rfl (by simp) (by decide)))
      (pss_cons (ps_set (i := 5) nd rfl (Or.inr rfl) pe_int)
      (C8.pss_cut (ps_for PassesOwn.never rfl (pi_list (pe_callB (r := rSortedSet wd) (cr_sortedSet rfl) (by rfl) T.g_sorted (by decide +kernel) (pa_cons (pe_callTy (r := rSetSq K wd) (cr_setSq rfl) (by rfl) T.g_set (by decide +kernel) (pa_cons (pv 0) pa_nil)) pa_nil))) (pg_name (i := 6) nd rfl (Or.inl rfl)) (pss_cons (ps_aug (i := 5) nd rfl (Or.inr rfl) (pe_cnt (pe_bm PySem.F.plainAttrs_list PySem.F.slot_list_count PySem.F.type_list_count (mt_countL hu2) (pv 0) (pa_cons (pv 6) pa_nil)) (pe_bmF PySem.F.slot_tuple_count PySem.F.type_tuple_count (mt_countT hu2) (pv 0) (pa_cons (pv 6) pa_nil))) ip_add)
      (C8.pss_cut (ps_lock (ps_setLc (i := 7) (own := [("places", 8)]) (g := gName 8) rfl nd rfl rfl (sw_true rfl rfl rfl (by decide +kernel)) (pi_keys (pv 3)) (blkOk_by (own := [("places", 8)]) (N := ["keys", "arms", "tree", "sizes", "chains", "held", "key", "longer", "places"]) (sc := (defScope s_how_many_of)) (by decide +kernel)) (fun _ _ _ _ _ => pg_name (i := 8) nd rfl (Or.inl rfl)) (fun _ _ _ _ _ => pts_one (pt_cmpR op_eq (pe_dget hd1 (pv 3) (pv 8) (fun _ _ => rfl)) (pv 5) (nomark _))) (fun _ _ _ _ _ => (pv 8))))
      (pss_one (ps_set (i := 4) nd rfl (Or.inr rfl) (pe_dc (own := [("places", 8)]) (g := gName 8) (tt := tYes) rfl nd (pi_list (pv 7)) (blkOk_by (own := [("places", 8)]) (N := ["keys", "arms", "tree", "sizes", "chains", "held", "key", "longer", "places"]) (sc := defScope s_how_many_of) (by decide +kernel)) (fun _ _ _ _ _ => pg_name (i := 8) nd rfl (Or.inl rfl)) (fun _ _ _ _ _ => pts_nil) (fun _ _ _ _ _ => (pv 8)) (fun _ _ _ _ _ => (pe_call (ok_ct T) (hr.mono (by decide)) (by rfl) T.m_chains_to T.F_chains_to.kp (b_ct T) .nil pass0 (pa_cons (pv 8) (pa_cons (pv 4) pa_nil))))))))))
      (pss_one (ps_ret (pe_sumVals rfl (by rfl) T.g_sum (pv 4)))))))))), ?_⟩
    refine ⟨rfl, _, rfl, _, rfl, rfl, rfl, r, w, ks, rfl, hw, hrow, by omega, hkb, fun H1 x s1 p0 t1 => ?_⟩
    refine ⟨_, rfl, r, 10, _, rfl, (hrow.same s1).len, by rw [List.length_map]; exact hkl, ?_⟩
    refine ⟨_, rfl, x, ks.length, w, rfl, t1, fun H2 S s2 nS eS => ?_⟩
    refine fun D nD => ⟨upd_same, [(Sum.inl 0, V.int 1)], rfl, by decide, ?_⟩
    rw [upd_upd, show mergeK [] [((Sum.inl 0 : Key), V.int 1)] = ([(0, 1)] : NP).map ent from rfl]
    have s3 := (s1.trans s2).trans (Same.up (o := dkO [(0, 1)]) nD)
    have eS3 := (Same.up (o := dkO [(0, 1)]) nD) _ _ eS
    have eD := upd_same (H := H2) (a := D) (o := dkO [(0, 1)])
    generalize upd H2 D (dkO [(0, 1)]) = H3 at s3 eS3 eD
    have hkn : ks.length ≤ 12 := by omega
    refine ⟨fun σ' H' => ∃ (c : Addr) (x6 x7 x8 : Option V), σ' = [some (.ref r), some (.int w), some (.ref x), some (.ref S), some (.ref c), some (.int ((grp us ks).sum : Nat)), x6, x7, x8] ∧ Same H H' ∧ H' c = some (dkO (hmC (szL w ks.length) (grp us ks) 0 [(0, 1)])), ?_, ?_⟩
    · have hrow3 := hrow.same s3
      refine ⟨_, rfl, r, ks, rfl, hrow3.len, by omega, fun p n hn np => ?_⟩
      refine ⟨p, _, n, rfl, upd_same, by omega, fun ns p2 asc mem _ np2 => ?_⟩
      obtain rfl : ns = us := asc_eq asc hus.1 fun z => by rw [mem, hus.2]; simp
      have s4 := s3.trans ((Same.up np).trans (Same.up (o := .lst (ns.map V.int)) np2))
      have eS4 := ((Same.up np).trans (Same.up (o := .lst (ns.map V.int)) np2)) _ _ eS3
      have eD4 := ((Same.up np).trans (Same.up (o := .lst (ns.map V.int)) np2)) _ _ eD
      have e2 := upd_same (H := upd H3 p (SetO wd p (fun j => decide (j ∈ ks)) n)) (a := p2) (o := .lst (ns.map V.int))
      generalize upd (upd H3 p (SetO wd p (fun j => decide (j ∈ ks)) n)) p2 (.lst (ns.map V.int)) = H4 at s4 eS4 eD4 e2
      refine ⟨p2, rfl, ⟨_, SqL.of e2⟩, for_it (walk_list (xs := ns.map V.int)) (fun i σ' H' => ∃ (c : Addr) (x6 x7 x8 : Option V), σ' = [some (.ref r), some (.int w), some (.ref x), some (.ref S), some (.ref c), some (.int (((grp ns ks).take i).sum : Nat)), x6, x7, x8] ∧ Same H4 H' ∧ H' c = some (dkO (hmC (szL w ks.length) ((grp ns ks).take i) 0 [(0, 1)])))
        ⟨D, _, _, _, rfl, Same.refl _, eD4⟩ (fun i σ' H' _ ⟨_, _, _, _, _, s, _⟩ => SqL.of (s _ _ e2)) ?_ ?_⟩
      · rintro i y σ' H5o H5 hi ⟨c, x6, x7, x8, rfl, s5, ec⟩ ⟨rfl, hy⟩
        obtain ⟨hi2, rfl⟩ := ints_at hy
        refine ⟨_, rfl, r, ks, ns[i], rfl, rfl, ((hrow.same s4).same s5).lf, _, _, rfl, rfl, ?_⟩
        have hgl : (grp ns ks).length = ns.length := by unfold grp; rw [List.length_map]
        have hgi : (grp ns ks)[i]? = some (ks.count ns[i]) := by unfold grp; rw [List.getElem?_map, List.getElem?_eq_getElem hi2]; rfl
        have htk : (grp ns ks).take (i + 1) = (grp ns ks).take i ++ [ks.count ns[i]] := by
          rw [List.take_add_one, hgi]
          rfl
        have hsum : (((grp ns ks).take (i + 1)).sum : Nat) = ((grp ns ks).take i).sum + ks.count ns[i] := by
          rw [htk, List.sum_append, List.sum_singleton]
        have esum : V.int ((((grp ns ks).take i).sum : Nat) + (ks.count ns[i] : Nat)) = V.int ((((grp ns ks).take (i + 1)).sum : Nat) : Int) := by rw [hsum]; rfl
        rw [esum]
        obtain ⟨C, eC⟩ : ∃ C, C = hmC (szL w ks.length) ((grp ns ks).take i) 0 [(0, 1)] := ⟨_, rfl⟩
        obtain ⟨h, eh⟩ : ∃ h, h = ((grp ns ks).take (i + 1)).sum := ⟨_, rfl⟩
        have hC1 : hmC (szL w ks.length) ((grp ns ks).take (i + 1)) 0 [(0, 1)] = hmS (szL w ks.length) h C := by
          rw [htk, hmC_append, ← eC, eh, hsum, Nat.zero_add]
        obtain ⟨hCn, hCl⟩ := hmC_ok (w := w) hkn ((grp ns ks).take i) 0 [(0, 1)] ⟨by decide, by decide⟩
        rw [← eC] at hCn hCl ec
        rw [← eh, hC1]
        have eS5 := s5 _ _ eS4
        obtain ⟨L, eL0⟩ : ∃ L, L = (szL w ks.length).filter fun x => decide (x.2 = h) := ⟨_, rfl⟩
        have hLl : L.length ≤ 4096 := eL0 ▸ Nat.le_trans (List.length_filter_le _ _) (sz_small hkn)
        have hLn : (L.map (·.1)).Nodup := eL0 ▸ ((List.filter_sublist).map _).nodup (sz_nodup w ks.length)
        refine ⟨fun σ' H' => ∃ (l : Addr) (x8 : Option V), σ' = [some (.ref r), some (.int w), some (.ref x), some (.ref S), some (.ref c), some (.int (h : Nat)), some (.int ns[i]), some (.ref l), x8] ∧ Same H5 H' ∧ H' l = some (.lst (L.map fun x => V.int (x.1 : Nat))), ?_, ?_⟩
        · refine ⟨S, _, eS5, trivial, fun od => ?_⟩
          have eL := upd_same (H := H5) (a := S) (o := .frz od (dkO (szL w ks.length)))
          refine ⟨_, rfl, S, od, rfl, .inl ⟨_, eL, fun D2 nD2 => ?_⟩⟩
          have hDS : D2 ≠ S := fun z => by rw [z, eL] at nD2; cases nD2
          refine lc_it (walk_keys (kvs := (szL w ks.length).map ent)) (fun j H' => Acc (upd H5 S (.frz od (dkO (szL w ks.length)))) D2 (((((szL w ks.length).take j).filter fun x => decide (x.2 = h))).map fun x => V.int (x.1 : Nat)) H') (Acc.start nD2) (fun j H' _ ac => ac.s _ _ eL) ?_ ?_
          · rintro j y H6o H6 hj ac ⟨rfl, k, v, hk, rfl⟩
            rw [List.length_map] at hj
            obtain ⟨m, cc, emc⟩ : ∃ m cc, (szL w ks.length)[j] = (m, cc) := ⟨_, _, rfl⟩
            have hmem : (m, cc) ∈ szL w ks.length := emc ▸ List.getElem_mem hj
            rw [List.getElem?_map, List.getElem?_eq_getElem hj, emc] at hk
            cases hk
            have hget : DGet H6 S (V.int (m : Int)) (some (V.int (cc : Nat))) := by
              rw [← val_ent (szL w ks.length) (m, cc) hmem (sz_nodup w _)]
              exact .inl ⟨_, Sum.inl (m : Int), .inr ⟨_, ac.s _ _ eL⟩, rfl, rfl⟩
            refine ⟨rfl, _, rfl, _, rfl, S, _, rfl, hget, _, rfl, rfl, _, rfl, ?_⟩
            have ed : decide (V.int (cc : Int) = V.int (h : Int)) = decide (cc = h) := by
              by_cases e : cc = h
              · rw [decide_eq_true e, e, decide_eq_true rfl]
              · rw [decide_eq_false e, decide_eq_false fun z => e (by injection z with z; omega)]
            have et : ((szL w ks.length).take (j + 1)).filter (fun x => decide (x.2 = h)) = ((szL w ks.length).take j).filter (fun x => decide (x.2 = h)) ++ if cc = h then [(m, cc)] else [] := by
              rw [← List.take_append_getElem hj, List.filter_append, emc, List.filter_cons]
              by_cases e : cc = h
              · rw [if_pos e, if_pos (decide_eq_true e)]
                rfl
              · rw [if_neg e, if_neg (by rw [decide_eq_false e]; exact Bool.false_ne_true)]
                rfl
            rw [et]
            refine ite_b (show _ = decide (cc = h) from ed) ?_
            by_cases e : cc = h
            · rw [decide_eq_true e, if_pos e]
              refine iteT ⟨_, rfl, _, ac.a, ?_, ?_⟩
              · have h1 := List.length_filter_le (fun x => decide (x.2 = h)) ((szL w ks.length).take j)
                have h2 := sz_small (w := w) hkn
                rw [List.length_take] at h1
                rw [List.length_map, sizeLine_eq]
                omega
              · rw [List.map_append]
                exact ac.push
            · rw [decide_eq_false e, if_neg e, List.append_nil]
              exact iteF ac
          · intro H6 ac
            rw [List.length_map, List.take_length, ← eL0] at ac
            exact ⟨ac.s _ _ eL, D2, _, rfl, same_lock eS5 ac.s, by rw [upd_ne hDS]; exact ac.a⟩
        · rintro σ' H6 ⟨l, x8', rfl, s6, el⟩
          refine ⟨_, rfl, l, rfl, ⟨_, SqL.of el⟩, fun D3 nD3 => ?_⟩
          have ec6 := s6 _ _ ec
          refine dc_it (walk_list (xs := L.map fun x => V.int (x.1 : Nat))) (fun j H' => Same H6 H' ∧ H' D3 = some (dkO ((L.take j).map fun x => (x.1, ctL C x.1)))) ⟨Same.up nD3, upd_same⟩ (fun j H' _ h => SqL.of (h.1 _ _ el)) ?_ ?_
          · rintro j y H7o H7 hj ⟨s7, e7⟩ ⟨rfl, hy⟩
            rw [List.length_map] at hj
            rw [List.getElem?_map, List.getElem?_eq_getElem hj] at hy
            cases hy
            refine ⟨rfl, iteT (B := Same H6 H7 ∧ H7 D3 = some (dkO ((L.take (j + 1)).map fun x => (x.1, ctL C x.1)))) ⟨_, rfl, _, rfl, _, rfl, L[j].1, c, C, rfl, s7 _ _ ec6, hCn, hCl, fun H8 s8 => ?_⟩⟩
            have e8 := s8 _ _ e7
            refine ⟨_, Sum.inl (L[j].1 : Int), rfl, e8, by rw [List.length_map, List.length_map, List.length_take, sizeLine_eq]; omega, fun b o e => ?_, ?_⟩
            · rw [upd_ne (ne_of_none e nD3)]
              exact s8 _ _ (s7 _ _ e)
            · have hnew : L[j].1 ∉ ((L.take j).map fun x => (x.1, ctL C x.1)).map (·.1) := fun z => by
                rw [List.map_map] at z
                have hd : ((L.take (j + 1)).map (·.1)).Nodup := ((List.take_sublist _ _).map _).nodup hLn
                rw [← List.take_append_getElem hj, List.map_append] at hd
                exact (List.nodup_append.mp hd).2.2 _ z _ (List.mem_singleton.mpr rfl) rfl
              rw [upd_same, put_ent _ _ _ hnew, ← List.take_append_getElem hj]
              show _ = some (HO.dK (List.map ent (List.map _ (_ ++ _))))
              rw [List.map_append, List.map_append, List.map_append]
              rfl
          · rintro H7 ⟨s7, e7⟩
            rw [List.length_map, List.take_length] at e7
            refine ⟨D3, _, _, _, rfl, s5.trans (s6.trans s7), ?_⟩
            rw [e7, eL0]
            rfl
      · rintro σ' H5 ⟨c, x6, x7, x8, rfl, s5, ec⟩
        have hgl : (grp ns ks).length = ns.length := by unfold grp; rw [List.length_map]
        rw [List.length_map, ← hgl, List.take_length] at ec ⊢
        exact ⟨c, _, _, _, rfl, s4.trans s5, ec⟩
    · rintro σ' H4 ⟨c, x6, x7, x8, rfl, s4, ec⟩
      refine ⟨_, rfl, c, _, _, rfl, ec, (by rw [List.map_map]; exact (List.map_map (f := fun x : Nat × Nat => ((x.2 : Nat) : Int)) (g := V.int)).symm), ?_⟩
      have := q H4 s4
      unfold hmN at this
      rw [← sum_nat, List.map_map] at this
      exact this
theorem b_hmo (T : Tx K mg A) : ∃ ds, Vals [V.int 2] ds ∧ L2.Binds K A.d_how_many_of ["keys", "arms"] ds := by
  refine T.F_how_many_of.binds0 1 (by simp) rfl (fun D doc pm an cdv ct us ks h1 h2 => ?_)
  match us, ks, h1, h2 with
  | [a], [c], _, _ => exact ⟨_, _, _, _, _, _, rfl, rfl, rfl⟩
theorem kb_hmo (T : Tx K mg A) : ∃ mv : List Value, KBn K A.d_how_many_of ["keys", "arms"] 1 ["arms"] (fun us ws => us ++ (mv ++ ws)) (fun vs zs => vs ++ zs) := by
  obtain ⟨mv, h⟩ := T.F_how_many_of.kbinds0 (ps := ["keys", "arms"]) 1 ["arms"] [] (fun us mv ws => us ++ (mv ++ ws)) (by simp) (by simp) (fun r1 r2 r3 => r1.append (r2.append r3))
    (fun D doc pm an cdv ct us mv ws h1 h2 h3 => by
      match us, mv, ws, h1, h2, h3 with
      | [a], [], [c], _, _, _ => rfl)
  exact ⟨mv, h⟩

end
end Tw

set_option Elab.async false
set_option linter.all false
set_option maxRecDepth 100000
set_option maxHeartbeats 2000000
namespace Tw
open PySem PySem.Spec PyProof.Rows L2
section
variable {P : Program} {w : World} {K : PySem.W.Frag} {mg : Str → Option Value} {base : Heap} {A : Ad}
open LamX (ExtN Tabs TabS)
def insA (x : Int) : List Int → List Int
  | [] => [x]
  | y :: l => if x < y then x :: y :: l else if x = y then y :: l else y :: insA x l
/-- the different keys, ascending -/
def ascL (l : List Int) : List Int := l.foldr insA []
/-- the keys that are left -/
def leftL (ks ps : List Int) : List Int := ps.foldl (fun l u => l.erase u) ks
def okNext (ps : List Int) (par : Option Nat) (x : Int) : Bool := match par with
  | none => true
  | some p => decide (ps.getD p 0 ≤ x)
def nextL (ks ps : List Int) (par : Option Nat) : List Int := (ascL (leftL ks ps)).filter (okNext ps par)
def parO (w i : Nat) : Option Nat := if i = 0 then none else some ((i - 1) / w)
def extL (ks : List Int) (w : Nat) : Nat → List (List Int)
  | 0 => [[]]
  | i + 1 => (extL ks w i).flatMap fun p => (nextL ks p (parO w i)).map fun x => p ++ [x]
def allH (ks : List Int) (w : Nat) : List (List Int) := extL ks w ks.length
def permsL : Nat → List Int → List (List Int)
  | 0, _ => [[]]
  | n + 1, l => (ascL l).flatMap fun x => (permsL n (l.erase x)).map fun s => x :: s
theorem left_snoc (ks ps : List Int) (u : Int) : leftL ks (ps ++ [u]) = (leftL ks ps).erase u := by
  unfold leftL
  rw [List.foldl_append]
  rfl
theorem left_perm : ∀ {ps ks rest : List Int}, ks.Perm (ps ++ rest) → (leftL ks ps).Perm rest
  | [], ks, rest, h => h
  | u :: ps, ks, rest, h => by
    refine left_perm (ps := ps) (ks := ks.erase u) ?_
    have e := h.erase u
    rw [List.cons_append, List.erase_cons_head] at e
    exact e
theorem insA_mem {x y : Int} : ∀ {l : List Int}, y ∈ insA x l ↔ y = x ∨ y ∈ l
  | [] => by simp [insA]
  | z :: l => by
    unfold insA
    by_cases h1 : x < z
    · rw [if_pos h1, List.mem_cons]
    · rw [if_neg h1]
      by_cases h2 : x = z
      · rw [if_pos h2]
        subst h2
        simp
      · rw [if_neg h2, List.mem_cons, insA_mem (l := l), List.mem_cons]
        exact ⟨fun h => by rcases h with h | h | h <;> simp [h], fun h => by rcases h with h | h | h <;> simp [h]⟩
theorem ascL_mem {y : Int} : ∀ {l : List Int}, y ∈ ascL l ↔ y ∈ l
  | [] => Iff.rfl
  | x :: l => by
    show y ∈ insA x (ascL l) ↔ _
    rw [insA_mem, ascL_mem (l := l), List.mem_cons]
theorem next_mem {ks ps : List Int} {par : Option Nat} {x : Int} (h : x ∈ nextL ks ps par) : x ∈ leftL ks ps := ascL_mem.mp (List.mem_filter.mp h).1
theorem ext_ok {ks : List Int} {w : Nat} : ∀ i, i ≤ ks.length → ∀ p ∈ extL ks w i, p.length = i ∧ ∃ rest, ks.Perm (p ++ rest)
  | 0, _, p, hp => by
    rw [List.mem_singleton.mp hp]
    exact ⟨rfl, ks, List.Perm.refl _⟩
  | i + 1, hi, p, hp => by
    obtain ⟨q, hq, hx⟩ := List.mem_flatMap.mp hp
    obtain ⟨x, hx2, rfl⟩ := List.mem_map.mp hx
    obtain ⟨h1, rest, h2⟩ := ext_ok i (by omega) q hq
    have hm : x ∈ rest := (left_perm h2).mem_iff.mp (next_mem hx2)
    refine ⟨by rw [List.length_append, h1]; rfl, rest.erase x, h2.trans ?_⟩
    rw [List.append_assoc]
    exact List.Perm.append_left q (List.perm_cons_erase hm)
theorem flat_congr {α β : Type} {f g : α → List β} : ∀ l : List α, (∀ a ∈ l, f a = g a) → l.flatMap f = l.flatMap g
  | [], _ => rfl
  | a :: l, h => by
    rw [List.flatMap_cons, List.flatMap_cons, h a List.mem_cons_self, flat_congr l fun b hb => h b (List.mem_cons_of_mem _ hb)]
/-- going deep at once -/
def dfsL (w : Nat) : Nat → List Int → List Int → List (List Int)
  | 0, p, _ => [p]
  | m + 1, p, l => ((ascL l).filter (okNext p (parO w p.length))).flatMap fun x => dfsL w m (p ++ [x]) (l.erase x)
theorem flat_one {α : Type} : ∀ l : List α, (l.flatMap fun p => [p]) = l
  | [] => rfl
  | a :: l => by rw [List.flatMap_cons, flat_one l]; rfl
theorem bfs_dfs {ks : List Int} {w : Nat} : ∀ (m i : Nat), i + m = ks.length → allH ks w = (extL ks w i).flatMap fun p => dfsL w m p (leftL ks p)
  | 0, i, h => by
    have e : i = ks.length := by omega
    subst e
    exact (flat_one _).symm
  | m + 1, i, h => by
    rw [bfs_dfs m (i + 1) (by omega)]
    show ((extL ks w i).flatMap fun p => (nextL ks p (parO w i)).map fun x => p ++ [x]).flatMap _ = _
    rw [List.flatMap_assoc]
    refine flat_congr _ fun p hp => ?_
    rw [List.flatMap_map]
    have hpl := (ext_ok i (by omega) p hp).1
    show _ = ((ascL (leftL ks p)).filter (okNext p (parO w p.length))).flatMap _
    rw [hpl]
    refine flat_congr _ fun x _ => ?_
    rw [left_snoc]
def heapB (w : Nat) (r : List Int) : Bool := (List.range r.length).all fun c => decide (c = 0) || decide (r.getD ((c - 1) / w) 0 ≤ r.getD c 0)
theorem heapB_iff {w : Nat} {r : List Int} : heapB w r = true ↔ ∀ c, 1 ≤ c → c < r.length → r.getD ((c - 1) / w) 0 ≤ r.getD c 0 := by
  unfold heapB
  rw [List.all_eq_true]
  refine ⟨fun h c h1 h2 => ?_, fun h c hc => ?_⟩
  · have := h c (List.mem_range.mpr h2)
    rw [Bool.or_eq_true, decide_eq_true_eq, decide_eq_true_eq] at this
    rcases this with e | e
    · omega
    · exact e
  · rw [Bool.or_eq_true, decide_eq_true_eq, decide_eq_true_eq]
    by_cases e : c = 0
    · exact .inl e
    · exact .inr (h c (by omega) (List.mem_range.mp hc))
theorem getD_left {a b : List Int} {c : Nat} (h : c < a.length) : (a ++ b).getD c 0 = a.getD c 0 := by
  rw [List.getD_eq_getElem?_getD, List.getD_eq_getElem?_getD, List.getElem?_append_left h]
theorem getD_mid {a b : List Int} {x : Int} : (a ++ x :: b).getD a.length 0 = x := by
  rw [List.getD_eq_getElem?_getD, List.getElem?_append_right (Nat.le_refl _), Nat.sub_self]
  rfl
theorem ok_iff {w : Nat} {p : List Int} {x : Int} : okNext p (parO w p.length) x = true ↔ (1 ≤ p.length → p.getD ((p.length - 1) / w) 0 ≤ x) := by
  unfold parO okNext
  by_cases h : p.length = 0
  · rw [if_pos h]
    exact ⟨fun _ z => by omega, fun _ => rfl⟩
  · rw [if_neg h]
    show decide _ = true ↔ _
    rw [decide_eq_true_eq]
    exact ⟨fun a _ => a, fun a => a (by omega)⟩
theorem par_in {w c : Nat} (h : 1 ≤ c) : (c - 1) / w < c := Nat.lt_of_le_of_lt (Nat.div_le_self _ _) (by omega)
theorem heap_snoc {w : Nat} {p : List Int} {x : Int} (h : heapB w p = true) (o : okNext p (parO w p.length) x = true) : heapB w (p ++ [x]) = true := by
  rw [heapB_iff] at h ⊢
  rw [ok_iff] at o
  intro c h1 h2
  rw [List.length_append, List.length_singleton] at h2
  have hp := par_in (w := w) h1
  by_cases e : c = p.length
  · subst e
    rw [getD_left hp, getD_mid]
    exact o h1
  · rw [getD_left (by omega), getD_left (by omega)]
    exact h c h1 (by omega)
theorem heap_not {w : Nat} {p s : List Int} {x : Int} (o : ¬ okNext p (parO w p.length) x = true) : heapB w (p ++ x :: s) = false := by
  cases hb : heapB w (p ++ x :: s) with
  | false => rfl
  | true =>
    refine absurd (ok_iff.mpr fun h1 => ?_) o
    have := heapB_iff.mp hb p.length h1 (by rw [List.length_append, List.length_cons]; omega)
    rw [getD_left (par_in h1), getD_mid] at this
    exact this
theorem flat_filter {α β : Type} (b : α → Bool) (f : α → List β) : ∀ l : List α, (l.filter b).flatMap f = l.flatMap fun x => if b x = true then f x else []
  | [] => rfl
  | a :: l => by
    by_cases h : b a = true
    · rw [List.filter_cons_of_pos h, List.flatMap_cons, List.flatMap_cons, if_pos h, flat_filter b f l]
    · rw [List.filter_cons_of_neg h, List.flatMap_cons, if_neg h, flat_filter b f l]
      rfl
theorem dfs_perms {w : Nat} : ∀ (m : Nat) (p l : List Int), heapB w p = true → (((permsL m l).map fun s => p ++ s).filter (heapB w)) = dfsL w m p l
  | 0, p, l, h => by
    show ([p ++ []] : List (List Int)).filter (heapB w) = [p]
    rw [List.append_nil, List.filter_cons_of_pos h]
    rfl
  | m + 1, p, l, h => by
    unfold permsL dfsL
    rw [flat_filter, List.map_flatMap, List.filter_flatMap]
    refine flat_congr _ fun x _ => ?_
    rw [List.map_map]
    by_cases o : okNext p (parO w p.length) x = true
    · rw [if_pos o, ← dfs_perms m (p ++ [x]) (l.erase x) (heap_snoc h o)]
      refine congrArg (List.filter (heapB w)) (List.map_congr_left fun s _ => ?_)
      show p ++ (x :: s) = (p ++ [x]) ++ s
      rw [List.append_assoc]
      rfl
    · rw [if_neg o, List.filter_eq_nil_iff]
      intro r hr
      obtain ⟨s, _, rfl⟩ := List.mem_map.mp hr
      rw [show ((fun s => p ++ s) ∘ fun s => x :: s) s = p ++ x :: s from rfl, heap_not o]
      exact Bool.false_ne_true
/-- extending keys by keys gives the heaps among all orders, in their order -/
theorem allH_perms (ks : List Int) (w : Nat) : allH ks w = (permsL ks.length ks).filter (heapB w) := by
  rw [bfs_dfs ks.length 0 (Nat.zero_add _)]
  show ([[]] : List (List Int)).flatMap _ = _
  rw [List.flatMap_cons, List.flatMap_nil, List.append_nil, ← dfs_perms ks.length [] (leftL ks []) rfl]
  refine congrArg (List.filter (heapB w)) ?_
  show (permsL ks.length ks).map (fun s => [] ++ s) = _
  simp
theorem insA_asc {x : Int} : ∀ {l : List Int}, l.Pairwise (· < ·) → (insA x l).Pairwise (· < ·)
  | [], _ => List.pairwise_singleton _ _
  | z :: l, h => by
    obtain ⟨h1, h2⟩ := List.pairwise_cons.mp h
    unfold insA
    by_cases a : x < z
    · rw [if_pos a]
      refine List.pairwise_cons.mpr ⟨fun y hy => ?_, h⟩
      rcases List.mem_cons.mp hy with e | e
      · rw [e]; exact a
      · exact Int.lt_trans a (h1 y e)
    · rw [if_neg a]
      by_cases b : x = z
      · rw [if_pos b]
        exact h
      · rw [if_neg b]
        refine List.pairwise_cons.mpr ⟨fun y hy => ?_, insA_asc h2⟩
        rcases insA_mem.mp hy with e | e
        · rw [e]; omega
        · exact h1 y e
theorem ascL_asc : ∀ l : List Int, (ascL l).Pairwise (· < ·)
  | [] => List.Pairwise.nil
  | x :: l => insA_asc (ascL_asc l)
def upF : Nat → Nat → Nat → List Nat
  | 0, _, p => [p]
  | k + 1, w, p => if p = 0 then [0] else p :: upF k w ((p - 1) / w)
def upL (w p : Nat) : List Nat := upF 13 w p
def wayL (w p : Nat) : List Nat := (upL w p).reverse
/-- the places of a subtree -/
def subL (n w i : Nat) : List Nat := (List.range n).filter fun j => decide (i ∈ wayL w j)
def prodS (n w : Nat) : Nat → Nat
  | 0 => 1
  | i + 1 => prodS n w i * (subL n w i).length
def howN (n w : Nat) : Nat := facN n / prodS n w n
def rgI (n : Nat) : List Int := (List.range n).map fun i => ((i : Nat) : Int)
theorem rgI_len (n : Nat) : (rgI n).length = n := by
  unfold rgI
  rw [List.length_map, List.length_range]
end
end Tw

set_option Elab.async false
set_option linter.all false
set_option maxRecDepth 100000
set_option maxHeartbeats 2000000
namespace Tw
open PySem PySem.Spec PyProof.Rows L2
section
variable {P : Program} {w : World} {K : PySem.W.Frag} {mg : Str → Option Value} {base : Heap} {A : Ad}
open LamX (ExtN Tabs TabS)
/-! how many heaps: what is known of the numbers -/
theorem ascL_eq {l m : List Int} (h : l.Perm m) : ascL l = ascL m := asc_eq (ascL_asc l) (ascL_asc m) fun x => by rw [ascL_mem, ascL_mem, h.mem_iff]
theorem permsL_eq : ∀ (n : Nat) {l m : List Int}, l.Perm m → permsL n l = permsL n m
  | 0, _, _, _ => rfl
  | n + 1, l, m, h => by
    show (ascL l).flatMap _ = (ascL m).flatMap _
    rw [ascL_eq h]
    refine congrArg (fun f => (ascL m).flatMap f) (funext fun x => ?_)
    rw [permsL_eq n (h.erase x)]
theorem allH_eq {l m : List Int} (h : l.Perm m) (w : Nat) : allH l w = allH m w := by
  rw [allH_perms, allH_perms, h.length_eq, permsL_eq _ h]
theorem asc_of (ks : List Int) : Asc (ascL ks) ks := ⟨ascL_asc ks, fun _ => ascL_mem⟩
theorem grp_perm {us l m : List Int} (h : l.Perm m) : grp us l = grp us m := by
  unfold grp
  exact List.map_congr_left fun x _ => h.count_eq x
def four (a b c d : Nat) : List Int := List.replicate a (-2) ++ List.replicate b (-1) ++ List.replicate c 0 ++ List.replicate d 1
theorem count_four (a b c d : Nat) (z : Int) : (four a b c d).count z = (if z = -2 then a else 0) + (if z = -1 then b else 0) + (if z = 0 then c else 0) + (if z = 1 then d else 0) := by
  unfold four
  simp only [List.count_append, List.count_replicate, beq_iff_eq, eq_comm (a := z)]
theorem to_four {ks : List Int} (h : ∀ z ∈ ks, -2 ≤ z ∧ z ≤ 1) : ∃ a b c d, (four a b c d).Perm ks := by
  refine ⟨ks.count (-2), ks.count (-1), ks.count 0, ks.count 1, List.perm_iff_count.mpr fun z => ?_⟩
  rw [count_four]
  by_cases e1 : z = -2
  · subst e1; simp
  · by_cases e2 : z = -1
    · subst e2; simp
    · by_cases e3 : z = 0
      · subst e3; simp
      · by_cases e4 : z = 1
        · subst e4; simp
        · rw [if_neg e1, if_neg e2, if_neg e3, if_neg e4, List.count_eq_zero.mpr fun hz => by have := h z hz; omega]
def fours : List (Nat × Nat × Nat × Nat) := (List.range 7).flatMap fun a => (List.range (7 - a)).flatMap fun b => (List.range (7 - a - b)).flatMap fun c => (List.range (7 - a - b - c)).map fun d => (a, b, c, d)
def okF (w : Nat) (q : Nat × Nat × Nat × Nat) : Bool := hmN (q.1 + q.2.1 + q.2.2.1 + q.2.2.2) w (grp (ascL (four q.1 q.2.1 q.2.2.1 q.2.2.2)) (four q.1 q.2.1 q.2.2.1 q.2.2.2)) == (allH (four q.1 q.2.1 q.2.2.1 q.2.2.2) w).length
theorem F1 : ([1, 2, 3, 4].all fun w => fours.all fun q => okF w q) = true := by decide +kernel
theorem F1' {w a b c d : Nat} (hw : 1 ≤ w ∧ w ≤ 4) (h : a + b + c + d ≤ 6) : hmN (a + b + c + d) w (grp (ascL (four a b c d)) (four a b c d)) = (allH (four a b c d) w).length := by
  have h1 := List.all_eq_true.mp F1 w (by simp only [List.mem_cons, List.not_mem_nil, or_false]; omega)
  have hm : (a, b, c, d) ∈ fours := List.mem_flatMap.mpr ⟨a, List.mem_range.mpr (by omega), List.mem_flatMap.mpr ⟨b, List.mem_range.mpr (by omega), List.mem_flatMap.mpr ⟨c, List.mem_range.mpr (by omega), List.mem_map.mpr ⟨d, List.mem_range.mpr (by omega), rfl⟩⟩⟩⟩
  exact beq_iff_eq.mp (List.all_eq_true.mp h1 _ hm)
theorem four_len (a b c d : Nat) : (four a b c d).length = a + b + c + d := by
  unfold four
  simp only [List.length_append, List.length_replicate]
theorem hm_heaps {ks : List Int} {w : Nat} (hw : 1 ≤ w ∧ w ≤ 4) (hl : ks.length ≤ 6) (h : ∀ z ∈ ks, -2 ≤ z ∧ z ≤ 1) : hmN ks.length w (grp (ascL ks) ks) = (allH ks w).length := by
  obtain ⟨a, b, c, d, p⟩ := to_four h
  have hs := p.length_eq
  rw [four_len] at hs
  rw [← allH_eq p, ← F1' hw (by omega), ← hs, ascL_eq p, grp_perm p]
theorem count_map (a b : Int) (ha : a ≠ 0) (z : Int) : ∀ ks : List Int, (ks.map fun k => a * k - b).count (a * z - b) = ks.count z
  | [] => rfl
  | k :: ks => by
    rw [List.map_cons, List.count_cons, List.count_cons, count_map a b ha z ks]
    by_cases e : k = z
    · rw [e]
      simp
    · have : ¬ a * k - b = a * z - b := fun y => e (Int.eq_of_mul_eq_mul_left ha (by omega))
      rw [beq_eq_false_iff_ne.mpr e, beq_eq_false_iff_ne.mpr this]
theorem asc_dbl (ks : List Int) : Asc ((ascL ks).map fun k => 5 * k - 3) (ks.map fun k => 5 * k - 3).reverse := by
  refine ⟨List.pairwise_map.mpr ((ascL_asc ks).imp fun h => by omega), fun x => ?_⟩
  rw [List.mem_reverse, List.mem_map, List.mem_map]
  exact ⟨fun ⟨a, b, c⟩ => ⟨a, ascL_mem.mp b, c⟩, fun ⟨a, b, c⟩ => ⟨a, ascL_mem.mpr b, c⟩⟩
theorem grp_dbl (ks : List Int) : grp ((ascL ks).map fun k => 5 * k - 3) (ks.map fun k => 5 * k - 3).reverse = grp (ascL ks) ks := by
  unfold grp
  rw [List.map_map]
  refine List.map_congr_left fun z _ => ?_
  show ((ks.map fun k => 5 * k - 3).reverse).count (5 * z - 3) = _
  rw [List.count_reverse, count_map 5 3 (by decide)]
theorem F3 : ∀ w, w < 5 → ∀ m, m < 11 → 1 ≤ w → hmN m w (List.replicate m 1) = howN m w := by decide +kernel
theorem asc_ord {os : List Int} {m : Nat} (p : os.Perm (rgI m)) : Asc (rgI m) os := by
  refine ⟨?_, fun x => p.mem_iff.symm⟩
  unfold rgI
  exact List.pairwise_map.mpr (List.pairwise_lt_range.imp fun h => by omega)
theorem grp_ord {os : List Int} {m : Nat} (p : os.Perm (rgI m)) : grp (rgI m) os = List.replicate m 1 := by
  rw [grp_perm p]
  unfold grp
  refine List.eq_replicate_iff.mpr ⟨by rw [List.length_map, rgI_len], fun x hx => ?_⟩
  obtain ⟨z, hz, rfl⟩ := List.mem_map.mp hx
  exact (asc_nodup (asc_ord (List.Perm.refl _)).1).count.trans (if_pos hz)
theorem F4 : ∀ w, w < 5 → ∀ m, m < 11 → 1 ≤ w → hmN m w (if m = 0 then [] else [m]) = 1 := by decide +kernel
def usS (m : Nat) (k : Int) : List Int := if m = 0 then [] else [k]
theorem asc_same (m : Nat) (k : Int) : Asc (usS m k) (List.replicate m k) := by
  unfold usS
  by_cases h : m = 0
  · subst h
    exact ⟨List.Pairwise.nil, fun x => by simp⟩
  · rw [if_neg h]
    exact ⟨by simp, fun x => by simp [h]⟩
theorem grp_same (m : Nat) (k : Int) : grp (usS m k) (List.replicate m k) = if m = 0 then [] else [m] := by
  unfold usS grp
  by_cases h : m = 0
  · rw [if_pos h, if_pos h]
    rfl
  · rw [if_neg h, if_neg h]
    simp
def twoU (t : Nat) : List Int := usS t 0 ++ usS (10 - t) 1
def twoK (t : Nat) : List Int := List.replicate t 0 ++ List.replicate (10 - t) 1
theorem asc_two (t : Nat) : Asc (twoU t) (twoK t) := by
  refine ⟨List.pairwise_append.mpr ⟨(asc_same t 0).1, (asc_same (10 - t) 1).1, fun a ha b hb => ?_⟩, fun x => ?_⟩
  · have h1 := (List.eq_of_mem_replicate ((asc_same t 0).2 a |>.mp ha))
    have h2 := (List.eq_of_mem_replicate ((asc_same (10 - t) 1).2 b |>.mp hb))
    omega
  · unfold twoU twoK
    rw [List.mem_append, List.mem_append, (asc_same t 0).2, (asc_same (10 - t) 1).2]
def onesL (lot : Nat) : List Nat := (List.range 10).filter fun p => decide (lot / 2 ^ p % 2 = 1)
def looseL (w : Nat) (os : List Nat) : List Nat := os.filter fun p => decide (p > 0) && !decide ((p - 1) / w ∈ os)
def hitL (w t lot : Nat) : Bool := decide ((onesL lot).length = t) && decide (looseL w (onesL lot) = [])
def rowsN (w t : Nat) : Nat → Nat
  | 0 => 0
  | i + 1 => rowsN w t i + if hitL w t i then 1 else 0
theorem F5 : ∀ w, w < 5 → ∀ t, t < 11 → 1 ≤ w → hmN 10 w (grp (twoU t) (twoK t)) = rowsN w t 1024 := by decide +kernel

end
end Tw

set_option Elab.async false
set_option linter.all false
set_option maxRecDepth 100000
set_option maxHeartbeats 2000000
namespace Tw
open PySem PySem.Spec PyProof.Rows L2
section
variable {P : Program} {w : World} {K : PySem.W.Frag} {mg : Str → Option Value} {base : Heap} {A : Ad}
open LamX (ExtN Tabs TabS)
/-- the draws: a list of the script and of a number -/
structure DrAt (K : PySem.W.Frag) (H : Hp) (d a : Addr) (ns : List Int) (k : Nat) : Prop where
  l : H d = some (.lst [.ref a, .int k])
  n : a ≠ d ∨ ∀ H', SqL K H' a (ns.map V.int)
  s : SqL K H a (ns.map V.int)
  h : ns.length ≤ 63
theorem DrAt.start {K : PySem.W.Frag} {H : Hp} {d a : Addr} {ns : List Int} (ha : SqL K H a (ns.map V.int)) (hl : ns.length ≤ 63) (hd : H d = none) : DrAt K (upd H d (.lst [.ref a, .int 0])) d a ns 0 := by
  refine ⟨upd_same, ?_, (Same.up hd).seq ha, hl⟩
  rcases ha with (h | ⟨o, h⟩) | h
  · exact .inl (ne_of_none h hd)
  · exact .inl (ne_of_none h hd)
  · exact .inr fun H' => .inr h
theorem b_arm (T : Tx K mg A) : L2.Binds K A.d__law_arms ["draw"] [] := T.F__law_arms.binds fun _ _ _ _ _ _ us hl => match us, hl with | [_], _ => rfl
theorem b_keys (T : Tx K mg A) : L2.Binds K A.d__law_keys ["draw", "most", "span"] [] := T.F__law_keys.binds fun _ _ _ _ _ _ us hl => match us, hl with | [_, _, _], _ => rfl
theorem b_lh (T : Tx K mg A) : L2.Binds K A.d__law_heaps ["keys", "wide"] [] := T.F__law_heaps.binds fun _ _ _ _ _ _ us hl => match us, hl with | [_, _], _ => rfl
theorem b_lo (T : Tx K mg A) : L2.Binds K A.d__law_order ["draw", "many"] [] := T.F__law_order.binds fun _ _ _ _ _ _ us hl => match us, hl with | [_, _], _ => rfl
theorem b_lpar (T : Tx K mg A) : L2.Binds K A.d__law_parent ["wide", "place"] [] := T.F__law_parent.binds fun _ _ _ _ _ _ us hl => match us, hl with | [_, _], _ => rfl
theorem b_pick (T : Tx K mg A) : L2.Binds K A.d__law_pick ["draw", "things"] [] := T.F__law_pick.binds fun _ _ _ _ _ _ us hl => match us, hl with | [_, _], _ => rfl
theorem b_take (T : Tx K mg A) : L2.Binds K A.d__law_take ["draw", "many"] [] := T.F__law_take.binds fun _ _ _ _ _ _ us hl => match us, hl with | [_, _], _ => rfl
theorem emp_eqv : ∀ ns : List Int, PyData.eqv (.list (ns.map PyData.int)) (.list []) = decide (ns = [])
  | [] => by rfl
  | n :: ns => by rfl
def dl (l : List Nat) : List PyData := l.map fun i => PyData.int (i : Nat)
theorem dl_ints (l : List Nat) : dl l = (l.map fun i => ((i : Nat) : Int)).map PyData.int := by unfold dl; rw [List.map_map]; rfl
theorem dl_emp (l : List Nat) : PyData.eqv (.list (dl l)) (.list (dl [])) = decide (l = []) := by
  rw [dl_ints, show dl [] = [] from rfl, emp_eqv]
  cases l <;> simp
theorem shaped_ints (ns : List Int) : SeqAt.shaped (.list (ns.map PyData.int)) = true := by
  have h1 : ∀ ms : List Int, PyData.canLayAll0 (ms.map PyData.int) = true := fun ms => by
    induction ms with
    | nil => rfl
    | cons m ms ih => rw [List.map_cons, PyData.canLayAll0, ih]; rfl
  have h2 : ∀ ms : List Int, PyData.depthAll (ms.map PyData.int) ≤ 1 := fun ms => by
    induction ms with
    | nil => simp [PyData.depthAll]
    | cons m ms ih =>
      simp only [List.map_cons, PyData.depthAll, PyData.depth]
      omega
  have h3 : PyData.depth (.list (ns.map PyData.int)) ≤ 64 := by
    have := h2 ns
    simp only [PyData.depth]
    omega
  unfold SeqAt.shaped
  rw [decide_eq_true h3, Bool.and_true]
  simp only [PyData.canLay0]
  exact h1 ns
theorem dl_shapedL (l : List Nat) : SeqAt.shaped (.list (dl l)) = true := by
  rw [dl_ints]
  exact shaped_ints _
def vi (l : List Nat) : List V := l.map fun i => V.int (i : Nat)
theorem ints_dp (K : PySem.W.Frag) (H : Hp) : ∀ ns : List Int, DpAll K H (ns.map V.int) (ns.map PyData.int)
  | [] => .nil
  | n :: ns => .cons (.int n) (ints_dp K H ns)
theorem vi_ints (l : List Nat) : vi l = (l.map fun i => ((i : Nat) : Int)).map V.int := by unfold vi; rw [List.map_map]; rfl
theorem vi_dp (K : PySem.W.Frag) (H : Hp) (l : List Nat) : DpAll K H (vi l) (dl l) := by
  rw [vi_ints, dl_ints]
  exact ints_dp _ _ _
theorem dp_lst (K : PySem.W.Frag) {H : Hp} {p : Addr} {l : List Nat} (h : H p = some (.lst (vi l))) : Dp K H (.ref p) (.list (dl l)) := .lst (SqL.of h) (vi_dp _ _ _)
theorem kb_hm (T : Tx K mg A) : ∃ mv : List Value, KBn K A.d_how_many ["many", "arms"] 1 ["arms"] (fun us ws => us ++ (mv ++ ws)) (fun vs zs => vs ++ zs) := by
  obtain ⟨mv, h⟩ := T.F_how_many.kbinds0 (ps := ["many", "arms"]) 1 ["arms"] [] (fun us mv ws => us ++ (mv ++ ws)) (by simp) (by simp) (fun r1 r2 r3 => r1.append (r2.append r3))
    (fun D doc pm an cdv ct us mv ws h1 h2 h3 => by
      match us, mv, ws, h1, h2, h3 with
      | [a], [], [c], _, _, _ => rfl)
  exact ⟨mv, h⟩
theorem mem_vi (i : Nat) (l : List Nat) : inV (V.int (i : Nat)) (vi l) = decide (i ∈ l) := by
  have key : ∀ j : Nat, eqV (V.int (j : Nat)) (V.int (i : Nat)) = decide (j = i) := fun j => by
    show ((j : Int) == (i : Int)) = decide (j = i)
    by_cases h : j = i
    · rw [h, decide_eq_true rfl, beq_self_eq_true]
    · rw [decide_eq_false h]
      exact beq_eq_false_iff_ne.mpr (by omega)
  unfold inV vi
  induction l with
  | nil => rfl
  | cons a l ih =>
    rw [List.map_cons, List.any_cons, ih, key]
    by_cases h : a = i
    · simp [h]
    · simp [h, Ne.symm h]
/-- what stood, but for what stands at d -/
def But (d : Addr) (H H' : Hp) : Prop := ∀ b o, b ≠ d → H b = some o → H' b = some o
theorem But.of {d : Addr} {H H' : Hp} (s : Same H H') : But d H H' := fun b o _ e => s b o e
theorem But.trans {d : Addr} {H H1 H2 : Hp} (a : But d H H1) (b : But d H1 H2) : But d H H2 := fun c o n e => b c o n (a c o n e)
theorem DrAt.same {K : PySem.W.Frag} {H H' : Hp} {d a : Addr} {ns : List Int} {k : Nat} (h : DrAt K H d a ns k) (s : Same H H') : DrAt K H' d a ns k := ⟨s _ _ h.l, h.n, s.seq h.s, h.h⟩
theorem cut63 (xs : List V) (h : xs.length ≤ 63) : cutV xs none (some 63) = xs := by
  unfold cutV
  rw [HT.sIx_none, show (63 : Int) = ((63 : Nat) : Int) from rfl, HT.sIx_nat, List.drop_zero, Nat.min_eq_right h, Nat.sub_zero, List.take_length]
def spNum (K : PySem.W.Frag) : Sp := fun vs H Q _ => ∃ (a : Addr) (ns : List Int) (i : Nat), vs = [.ref a, .int i] ∧ SqL K H a (ns.map V.int) ∧ ns.length ≤ 63 ∧ i < 1000000 ∧ ∀ H' r, Same H H' → Q (.int r) H'
theorem ok_num (T : Tx K mg A) : FnOk P w K mg base CX0 2 A.f__law_number A.d__law_number ["script", "index"] (spNum K) := by
  refine T.F__law_number.ok sc__law_number (fun vs H Q E h => ?_) (fun cdv B outer s H vs Q E hr h => ?_)
  · obtain ⟨a, ns, i, rfl, _⟩ := h
    rfl
  · obtain ⟨a, ns, i, rfl, ha, hl, hi, q⟩ := h
    have nd := sc__law_number.nd
    have hu := hr.units
    refine ⟨_, C8.pss_cut (ps_set (i := 2) nd rfl (Or.inl rfl) (pe_ifExp (pt_cmpR (op_neD hu) (pv 0) (pe_lst pa_nil) (nomark _)) (pe_slice sl_list (pv 0) po_none (po_some pe_int)) (pe_lst (pa_cons pe_int pa_nil))))
      (pss_cons (ps_set (i := 3) nd rfl (Or.inl rfl) (pe_op op_add
        (pe_ix ix_list (pv 2) (pe_op op_mod (pe_callTy call_int1 (by rfl) T.g_int (by decide +kernel) (pa_cons (pv 1) pa_nil)) (pe_callB call_len_seq (by rfl) T.g_len PySem.boot_len (pa_cons (pv 2) pa_nil))) (fun _ _ => rfl))
        (pe_op op_mul pe_int (pe_op op_fdivN (pv 1) (pe_callB call_len_seq (by rfl) T.g_len PySem.boot_len (pa_cons (pv 2) pa_nil))))))
      (pss_cons (ps_par (i := 4) (j := 5) rfl nd rfl rfl (by decide) rfl rfl (pa_cons (pe_op op_mod (pe_callTy call_int1 (by rfl) T.g_int (by decide +kernel) (pa_cons (pv 3) pa_nil)) pe_int)
          (pa_cons (pe_op op_mod (pe_callTy call_int1 (by rfl) T.g_int (by decide +kernel) (pa_cons (pe_op op_fdivN (pv 3) pe_int) pa_nil)) pe_int) pa_nil)) rfl)
      (pss_cons (ps_set (i := 6) nd rfl (Or.inl rfl) (pe_op op_mod (pe_callTy call_int1 (by rfl) T.g_int (by decide +kernel) (pa_cons (pe_callB (cr_sum rfl) (by rfl) T.g_sum (by decide +kernel) (pa_cons (pv 2) pa_nil)) pa_nil)) pe_int))
      (pss_cons (ps_set (i := 7) nd rfl (Or.inl rfl) (pe_op op_mod (pe_callTy call_int1 (by rfl) T.g_int (by decide +kernel) (pa_cons
          (pe_op op_add (pe_op op_add (pe_op op_mul (pe_op op_add (pv 4) (pe_op op_mul pe_int (pv 1))) pe_int) (pe_op op_mul pe_int (pv 5))) (pv 6)) pa_nil)) pe_int))
      (pss_one (ps_ret (pe_op op_add (pe_op op_mul (pe_op op_mod (pe_callTy call_int1 (by rfl) T.g_int (by decide +kernel) (pa_cons
          (pe_op op_mul (pv 7) (pe_op op_add (pe_op op_add (pv 7) (pe_op op_mul pe_int (pv 1))) pe_int)) pa_nil)) pe_int) pe_int) (pv 5)))))))), ?_⟩
    refine ⟨fun σ H1 => ∃ (c : Addr) (cs : List Int), σ = [some (.ref a), some (.int i), some (.ref c), none, none, none, none, none] ∧ Same H H1 ∧ H1 c = some (.lst (cs.map V.int)) ∧ 0 < cs.length ∧ cs.length ≤ 63, ?_, ?_⟩
    · refine ⟨_, rfl, Nat.zero_le _, fun l0 hl0 => ?_⟩
      have hs0 : Same H (upd H l0 (.lst [])) := Same.up hl0
      refine ⟨.list (ns.map PyData.int), .list [], .lst (hs0.seq ha) (ints_dp _ _ _), .lst (SqL.of upd_same) .nil, ?_, rfl, _, rfl, ?_⟩
      · exact shaped_ints _
      · rw [emp_eqv]
        by_cases e : ns = []
        · rw [decide_eq_true e]
          refine iteF ⟨by show 1 ≤ sizeLine; decide, fun l1 hl1 => ⟨l1, [5], rfl, hs0.trans (Same.up hl1), upd_same, by decide, by decide⟩⟩
        · rw [decide_eq_false e]
          refine iteT ⟨_, rfl, _, rfl, a, _, rfl, hs0.seq ha, fun l1 hl1 => ⟨l1, ns, rfl, hs0.trans (Same.up hl1), ?_, ?_, hl⟩⟩
          · rw [upd_same]
            exact congrArg (fun z => some (HO.lst z)) (cut63 _ (by rw [List.length_map]; exact hl))
          · exact List.length_pos_iff.mpr e
    · rintro σ H1 ⟨c, cs, rfl, s1, hc, h0, h63⟩
      have hq := SqL.of (K := K) hc
      have hL : ((cs.map V.int).length : Int) = (cs.length : Int) := by rw [List.length_map]
      have hm0 : 0 ≤ (i : Int) % (cs.length : Int) := Int.emod_nonneg _ (by omega)
      have hm1 : (i : Int) % (cs.length : Int) < (cs.length : Int) := Int.emod_lt_of_pos _ (by omega)
      obtain ⟨j, hj⟩ : ∃ j : Nat, (i : Int) % (cs.length : Int) = (j : Int) := ⟨_, (Int.toNat_of_nonneg hm0).symm⟩
      have hjl : j < cs.length := by omega
      have hat : atI (cs.map V.int) ((i : Int) % ((cs.map V.int).length : Int)) = some (V.int cs[j]) := by
        rw [hL, hj]
        exact atI_nat (by rw [List.getElem?_map, List.getElem?_eq_getElem hjl]; rfl)
      refine ⟨_, rfl, _, rfl, .inl ⟨_, rfl, _, rfl, c, _, rfl, .inl hq, _, _, rfl, rfl, ?_, c, _, _, _, rfl, rfl, hq, hat, _, rfl, _, rfl, c, _, rfl, .inl hq, _, _, rfl, rfl, ⟨?_, ?_⟩, _, _, rfl, rfl, .inl ⟨by decide, by decide⟩, _, _, rfl, rfl, ?_⟩⟩
      · show (0 : Int) < ((cs.map V.int).length : Int)
        omega
      · omega
      · omega
      · refine ⟨_, rfl, .inl ⟨_, rfl, _, _, rfl, rfl, by show (0 : Int) < 1000003; decide, ?_⟩⟩
        refine ⟨_, rfl, _, _, rfl, rfl, ⟨by decide, by decide⟩, .inl ⟨_, rfl, _, _, rfl, rfl, by show (0 : Int) < 999983; decide, _, _, rfl, ?_⟩⟩
        refine ⟨_, rfl, c, cs, rfl, hq, .inl ⟨_, rfl, _, _, rfl, rfl, by show (0 : Int) < 65521; decide, ?_⟩⟩
        refine ⟨_, rfl, _, rfl, _, _, rfl, rfl, .inl ⟨by decide, by decide⟩, _, _, rfl, rfl, _, _, rfl, rfl, .inr ⟨by decide, by decide⟩, ?_⟩
        refine ⟨_, rfl, _, _, rfl, rfl, .inl ⟨by decide, by decide⟩, _, _, rfl, rfl, _, rfl, _, _, rfl, rfl, .inl ⟨_, rfl, _, _, rfl, rfl, by show (0 : Int) < 2147483647; decide, ?_⟩⟩
        refine ⟨_, rfl, _, rfl, _, rfl, _, _, rfl, rfl, .inl ⟨by decide, by decide⟩, _, _, rfl, rfl, _, _, rfl, rfl, _, _, rfl, rfl, .inl ⟨?_, ?_⟩, .inl ⟨_, rfl, _, _, rfl, rfl, by show (0 : Int) < 2147483629; decide, ?_⟩⟩
        · have := Int.emod_nonneg ((((cs[j] + 13 * Int.fdiv (i : Int) ((cs.map V.int).length : Int)) % 1000003 + 977 * (i : Int)) * 48271 + 31 * (Int.fdiv (cs[j] + 13 * Int.fdiv (i : Int) ((cs.map V.int).length : Int)) 1000003 % 999983)) + cs.sum % 65521) (show (2147483647 : Int) ≠ 0 by decide)
          omega
        · have := Int.emod_lt_of_pos ((((cs[j] + 13 * Int.fdiv (i : Int) ((cs.map V.int).length : Int)) % 1000003 + 977 * (i : Int)) * 48271 + 31 * (Int.fdiv (cs[j] + 13 * Int.fdiv (i : Int) ((cs.map V.int).length : Int)) 1000003 % 999983)) + cs.sum % 65521) (show (0 : Int) < 2147483647 by decide)
          omega
        · exact ⟨_, _, rfl, rfl, .inr ⟨by decide, by decide⟩, _, rfl, _, _, rfl, rfl, q _ _ s1⟩
theorem b_num (T : Tx K mg A) : L2.Binds K A.d__law_number ["script", "index"] [] := T.F__law_number.binds fun _ _ _ _ _ _ us hl => match us, hl with | [_, _], _ => rfl
theorem But.put {d : Addr} {o : HO} {H : Hp} : But d H (upd H d o) := fun b u n e => by rw [upd_ne n]; exact e
theorem But.seq {d a : Addr} {H H' : Hp} {xs : List V} (s : But d H H') (h : SqL K H a xs) (n : a ≠ d ∨ ∀ H', SqL K H' a xs) : SqL K H' a xs := by
  rcases n with n | n
  rotate_left
  · exact n _
  rcases h with (h | ⟨o, h⟩) | h
  · exact .inl (.inl (s _ _ n h))
  · exact .inl (.inr ⟨o, s _ _ n h⟩)
  · exact .inr h
def spTake (K : PySem.W.Frag) : Sp := fun vs H Q _ => ∃ (d a : Addr) (ns : List Int) (k m : Nat), vs = [.ref d, .int m] ∧ DrAt K H d a ns k ∧ k < 100000 ∧ 0 < m ∧
  ∀ (H' : Hp) (r : Nat), But d H H' → DrAt K H' d a ns (k + 1) → r < m → Q (.int r) H'
theorem ok_take (T : Tx K mg A) : FnOk P w K mg base CX0 3 A.f__law_take A.d__law_take ["draw", "many"] (spTake K) := by
  refine T.F__law_take.ok sc__law_take (fun vs H Q E h => ?_) (fun cdv B outer s H vs Q E hr h => ?_)
  · obtain ⟨d, a, ns, k, m, rfl, _⟩ := h
    rfl
  · obtain ⟨d, a, ns, k, m, rfl, ⟨hl, hn, hs, h63⟩, hk, hm, q⟩ := h
    refine ⟨_, pss_cons (ps_asg (pe_op op_add (pe_ix ix_list (pv 0) pe_int (fun _ _ => rfl)) pe_int) (pg_sub (pv 0) pe_int set_list))
      (pss_one (ps_ret (pe_op op_mod (pe_callTy call_int1 (by rfl) T.g_int (by decide +kernel) (pa_cons
        (pe_call (ok_num T) hr (by rfl) T.m__law_number T.F__law_number.kp (b_num T) .nil pass0 (pa_cons (pe_ix ix_list (pv 0) pe_int (fun _ _ => rfl))
          (pa_cons (pe_callTy call_int1 (by rfl) T.g_int (by decide +kernel) (pa_cons (pe_ix ix_list (pv 0) pe_int (fun _ _ => rfl)) pa_nil)) pa_nil))) pa_nil)) (pv 1)))), ?_⟩
    have at1 : atI [V.ref a, V.int (k : Nat)] 1 = some (V.int (k : Nat)) := rfl
    refine ⟨_, rfl, d, _, _, _, rfl, rfl, SqL.of hl, at1, _, _, rfl, rfl, _, rfl, d, _, _, 1, rfl, rfl, hl, rfl, ?_⟩
    have e1 : upd H d (.lst (([V.ref a, V.int (k : Nat)]).set 1 (V.int ((k : Int) + 1)))) d = some (.lst [V.ref a, V.int ((k + 1 : Nat) : Int)]) := by
      rw [upd_same]
      rfl
    have b1 : But d H (upd H d (.lst (([V.ref a, V.int (k : Nat)]).set 1 (V.int ((k : Int) + 1))))) := But.put
    have s1 := b1.seq hs hn
    refine ⟨_, rfl, d, _, _, _, rfl, rfl, SqL.of e1, rfl, _, rfl, d, _, _, _, rfl, rfl, SqL.of e1, rfl, .inl ⟨_, rfl, a, ns, k + 1, rfl, s1, h63, by omega, fun H2 r s2 => ?_⟩⟩
    refine .inl ⟨_, rfl, _, rfl, _, _, rfl, rfl, by show (0 : Int) < (m : Nat); omega, ?_⟩
    have m0 := Int.emod_nonneg r (show ((m : Nat) : Int) ≠ 0 by omega)
    have m1 := Int.emod_lt_of_pos r (show (0 : Int) < (m : Nat) by omega)
    obtain ⟨z, hz⟩ : ∃ z : Nat, r % (m : Nat) = (z : Int) := ⟨_, (Int.toNat_of_nonneg m0).symm⟩
    have h := q H2 z (b1.trans (But.of s2)) ⟨s2 _ _ e1, hn, s2.seq s1, h63⟩ (by omega)
    rw [← hz] at h
    exact h
def spPick (K : PySem.W.Frag) : Sp := fun vs H Q _ => ∃ (d a b : Addr) (ns zs : List Int) (k : Nat), vs = [.ref d, .ref b] ∧ DrAt K H d a ns k ∧ k < 50000 ∧ H b = some (.lst (zs.map V.int)) ∧ b ≠ d ∧ 0 < zs.length ∧
  ∀ (H' : Hp) (z : Int), But d H H' → DrAt K H' d a ns (k + 1) → z ∈ zs → Q (.int z) H'
theorem ok_pick (T : Tx K mg A) : FnOk P w K mg base CX0 4 A.f__law_pick A.d__law_pick ["draw", "things"] (spPick K) := by
  refine T.F__law_pick.ok sc__law_pick (fun vs H Q E h => ?_) (fun cdv B outer s H vs Q E hr h => ?_)
  · obtain ⟨d, a, b, ns, zs, k, rfl, _⟩ := h
    rfl
  · obtain ⟨d, a, b, ns, zs, k, rfl, dr, hk, hb, hbd, hz, q⟩ := h
    refine ⟨_, pss_one (ps_ret (pe_ix ix_list (pv 1) (pe_call (ok_take T) hr (by rfl) T.m__law_take T.F__law_take.kp (b_take T) .nil pass0 (pa_cons (pv 0) (pa_cons (pe_callB call_len_seq (by rfl) T.g_len PySem.boot_len (pa_cons (pv 1) pa_nil)) pa_nil))) (fun _ _ => rfl))), ?_⟩
    refine ⟨_, rfl, _, rfl, _, rfl, b, _, rfl, .inl (SqL.of hb), d, a, ns, k, (zs.map V.int).length, rfl, dr, by omega, by rw [List.length_map]; exact hz, fun H1 r b1 dr1 hr1 => ?_⟩
    rw [List.length_map] at hr1
    have e : (zs.map V.int)[r]? = some (V.int zs[r]) := by rw [List.getElem?_map, List.getElem?_eq_getElem hr1]; rfl
    exact ⟨b, _, _, _, rfl, rfl, SqL.of (b1 _ _ hbd hb), atI_nat e, q H1 _ b1 dr1 (List.getElem_mem hr1)⟩
def spArm (K : PySem.W.Frag) : Sp := fun vs H Q _ => ∃ (d a : Addr) (ns : List Int) (k : Nat), vs = [.ref d] ∧ DrAt K H d a ns k ∧ k < 50000 ∧
  ∀ (H' : Hp) (w : Nat), But d H H' → DrAt K H' d a ns (k + 1) → (1 ≤ w ∧ w ≤ 4) → Q (.int w) H'
theorem ok_arm (T : Tx K mg A) : FnOk P w K mg base CX0 5 A.f__law_arms A.d__law_arms ["draw"] (spArm K) := by
  refine T.F__law_arms.ok sc__law_arms (fun vs H Q E h => ?_) (fun cdv B outer s H vs Q E hr h => ?_)
  · obtain ⟨d, a, ns, k, rfl, _⟩ := h
    rfl
  · obtain ⟨d, a, ns, k, rfl, dr, hk, q⟩ := h
    refine ⟨_, pss_one (ps_ret (pe_call (ok_pick T) hr (by rfl) T.m__law_pick T.F__law_pick.kp (b_pick T) .nil pass0 (pa_cons (pv 0) (pa_cons (pe_lst (pa_cons pe_int (pa_cons pe_int (pa_cons pe_int (pa_cons pe_int (pa_cons pe_int (pa_cons pe_int pa_nil))))))) pa_nil)))), ?_⟩
    refine ⟨_, rfl, by show 6 ≤ sizeLine; decide, fun b hb => ?_⟩
    have hbd : b ≠ d := fun z => by rw [z, dr.l] at hb; cases hb
    refine ⟨d, a, b, ns, [2, 2, 2, 3, 1, 4], k, rfl, dr.same (Same.up hb), hk, upd_same, hbd, by decide, fun H1 z b1 dr1 hz => ?_⟩
    have h4 : 1 ≤ z ∧ z ≤ 4 := by
      simp only [List.mem_cons, List.not_mem_nil, or_false] at hz
      omega
    obtain ⟨w, rfl⟩ : ∃ w : Nat, z = (w : Int) := ⟨z.toNat, by omega⟩
    exact q H1 w ((But.of (Same.up hb)).trans b1) dr1 ⟨by omega, by omega⟩
theorem b_siz (T : Tx K mg A) : L2.Binds K A.d_t_size ["self", "place"] [] := T.F_t_size.binds fun _ _ _ _ _ _ us hl => match us, hl with | [_, _], _ => rfl
theorem sub_n (n w i : Nat) : (subL n w i).length ≤ n := by
  unfold subL
  exact Nat.le_trans (List.length_filter_le _ _) (by rw [List.length_range]; exact Nat.le_refl _)
theorem b_sub (T : Tx K mg A) : L2.Binds K A.d_t_subtree ["self", "place"] [] := T.F_t_subtree.binds fun _ _ _ _ _ _ us hl => match us, hl with | [_, _], _ => rfl
theorem vi_len (l : List Nat) : (vi l).length = l.length := by unfold vi; rw [List.length_map]
theorem b_way (T : Tx K mg A) : L2.Binds K A.d_t_way_to ["self", "place"] [] := T.F_t_way_to.binds fun _ _ _ _ _ _ us hl => match us, hl with | [_, _], _ => rfl
theorem up_eq : ∀ w, w < 5 → ∀ p, p < 13 → 1 ≤ w → upL w p = if p = 0 then [0] else p :: upL w ((p - 1) / w) := by decide +kernel
theorem up_len : ∀ w, w < 5 → ∀ p, p < 13 → 1 ≤ w → (upL w p).length ≤ 13 := by decide +kernel
theorem vi_app (a b : List Nat) : vi (a ++ b) = vi a ++ vi b := by unfold vi; rw [List.map_append]
theorem vi_rev (a : List Nat) : (vi a).reverse = vi a.reverse := by unfold vi; rw [List.map_reverse]
/-- a number that falls while a place goes up -/
def muV : Option (Option V) → Nat
  | some (some (V.int z)) => z.toNat + 1
  | _ => 0
def spWay (C : Addr) : Sp := fun vs H Q _ => ∃ (p n w i : Nat), vs = [.ref p, .int i] ∧ TreeAt C H p n w ∧ i < n ∧ ∀ H' q, Same H H' → H q = none → H' q = some (.tup (vi (wayL w i))) → Q (.ref q) H'
theorem ok_way (T : Tx K mg A) : FnOk P w K mg base CX0 5 A.f_t_way_to A.d_t_way_to ["self", "place"] (spWay A.C) := by
  refine T.F_t_way_to.ok sc_t_way_to (fun vs H Q E h => ?_) (fun cdv B outer s H vs Q E hr h => ?_)
  · obtain ⟨p, n, w, i, rfl, _⟩ := h
    rfl
  · obtain ⟨p, n, w, i, rfl, t, hi, q⟩ := h
    refine ⟨_, pss_cons (ps_set (i := 2) sc_t_way_to.nd rfl (Or.inl rfl) (pe_lst (pa_cons (pv 1) pa_nil)))
      (pss_cons (ps_set (i := 3) sc_t_way_to.nd rfl (Or.inl rfl) (pe_meth (pv 0) T.cT T.M_t_parent (ok_par T) hr (b_par T) .nil pass0 (pa_cons (pv 1) pa_nil)))
      (pss_cons (ps_while PassesOwn.never (pt_cmpR op_notN (pv 3) pe_non (nomark _))
        (pss_cons (ps_expr (pe_bm PySem.F.plainAttrs_list PySem.F.slot_list_append PySem.F.type_list_append mt_append (pv 2) (pa_cons (pv 3) pa_nil)))
        (pss_one (ps_set (i := 3) sc_t_way_to.nd rfl (Or.inl rfl) (pe_meth (pv 0) T.cT T.M_t_parent (ok_par T) hr (b_par T) .nil pass0 (pa_cons (pv 3) pa_nil))))))
      (pss_one (ps_ret (pe_callTy call_tuple_of (by rfl) T.g_tuple (by decide +kernel) (pa_cons (pe_revL (pv 2)) pa_nil)))))), ?_⟩
    obtain ⟨dx, l, h1, h2⟩ := t.ob
    have noP : (tf n w l).lookup ("parent" : Str) = none := tf_no _ _ _ (by decide +kernel) (by decide +kernel) (by decide +kernel)
    refine ⟨_, rfl, by show 1 ≤ sizeLine; decide, fun d hd => ?_⟩
    have s1 : Same H (upd H d (.lst [V.int (i : Nat)])) := Same.up hd
    refine ⟨_, rfl, p, dx, _, rfl, s1 _ _ h1, noP, _, rfl, p, n, w, i, rfl, t.same s1, hi, ?_⟩
    refine while_by (fun σ H' => ∃ (c : Nat) (acc : List Nat), σ = [some (.ref p), some (.int i), some (.ref d), some (parV w c)] ∧ c < n ∧ Acc H d (vi (acc ++ [c])) H' ∧ acc ++ upL w c = upL w i ∧ acc.length ≤ 12)
      (fun σ _ => muV σ[3]?) ⟨i, [], rfl, hi, ⟨s1, hd, upd_same⟩, rfl, Nat.zero_le _⟩ ?_ ?_
    · rintro σ H' ⟨c, acc, rfl, hc, ac, ea, hl⟩
      have hn := t.hn
      have hw := t.hw
      have eu := up_eq w (by omega) c (by omega) hw.1
      refine ⟨_, rfl, rfl, _, rfl, ?_⟩
      by_cases h0 : c = 0
      · have ev : parV w c = V.non := by unfold parV; rw [if_pos h0]
        rw [ev, decide_eq_true (rfl : V.non = V.non)]
        refine iteF ?_
        rw [if_pos h0] at eu
        refine ⟨_, rfl, d, _, rfl, SqL.of ac.a, fun r hr0 => ⟨r, _, rfl, .inl ⟨SqL.of upd_same, fun u hu => q _ u (ac.s.trans ((Same.up hr0).trans (Same.up hu))) (ac.s.free ((Same.up hr0).free hu)) ?_⟩⟩⟩
        unfold wayL
        rw [upd_same, vi_rev, ← ea, eu, h0]
      · have ev : parV w c = V.int ((c - 1) / w : Nat) := by unfold parV; rw [if_neg h0]
        rw [ev, decide_eq_false (show ¬ V.int ((c - 1) / w : Nat) = V.non from fun z => nomatch z)]
        refine iteT ?_
        rw [if_neg h0] at eu
        have hlt : (c - 1) / w < c := Nat.lt_of_le_of_lt (Nat.div_le_self _ _) (by omega)
        have hL : acc.length + 1 + (upL w ((c - 1) / w)).length = (upL w i).length := by
          rw [← ea, eu, List.length_append, List.length_cons]
          omega
        have hL2 := up_len w (by omega) i (by omega) hw.1
        have hL3 := up_eq w (by omega) ((c - 1) / w) (by omega) hw.1
        have hL4 : 1 ≤ (upL w ((c - 1) / w)).length := by
          rw [hL3]
          split
          · exact Nat.le_refl _
          · rw [List.length_cons]; omega
        refine ⟨_, rfl, .inl ⟨rfl, _, SqL.of ac.a⟩, _, rfl, d, _, _, rfl, rfl, ac.a, small1000 (by rw [vi_len, List.length_append, List.length_singleton]; omega), ?_⟩
        have e2 : vi (acc ++ [c]) ++ [V.int ((c - 1) / w : Nat)] = vi (acc ++ [c] ++ [(c - 1) / w]) := by rw [vi_app (acc ++ [c])]; rfl
        rw [e2]
        have ac2 : Acc H d (vi (acc ++ [c] ++ [(c - 1) / w])) (upd H' d (.lst (vi (acc ++ [c] ++ [(c - 1) / w])))) := ac.push
        refine ⟨_, rfl, p, dx, _, rfl, ac2.s _ _ h1, noP, _, rfl, p, n, w, (c - 1) / w, rfl, t.same ac2.s, by omega, ?_⟩
        refine ⟨⟨(c - 1) / w, acc ++ [c], rfl, by omega, ac2, ?_, by rw [List.length_append, List.length_singleton]; omega⟩, ?_⟩
        · rw [← ea, eu, List.append_assoc]
          rfl
        · show muV (some (some (parV w ((c - 1) / w)))) < muV (some (some (V.int ((c - 1) / w : Nat))))
          unfold parV
          split
          · show 0 < _
            exact Nat.succ_pos _
          · rename_i h9
            show (((((c - 1) / w - 1) / w : Nat) : Int)).toNat + 1 < ((((c - 1) / w : Nat) : Int)).toNat + 1
            rw [Int.toNat_natCast, Int.toNat_natCast]
            exact Nat.succ_lt_succ (Nat.lt_of_le_of_lt (Nat.div_le_self _ _) (Nat.sub_lt (Nat.pos_of_ne_zero h9) Nat.one_pos))
    · rintro σ' H1 Q1 Q2 mono ⟨v, hv, e1, b1, e2, z⟩
      exact ⟨v, hv, e1, b1, e2, mono _ _ z⟩
theorem vi_flat (l : List Nat) : (vi l).all flatV = true := by
  unfold vi
  rw [List.all_map]
  exact List.all_eq_true.mpr fun _ _ => rfl
theorem sub_pick (n w i : Nat) : vi (subL n w i) = (List.range n).filterMap fun j => if i ∈ wayL w j then some (V.int (j : Nat)) else none := by
  unfold vi subL
  induction List.range n with
  | nil => rfl
  | cons a l ih =>
    by_cases h : i ∈ wayL w a
    · rw [List.filter_cons_of_pos (by simp [h]), List.map_cons, ih, List.filterMap_cons, if_pos h]
    · rw [List.filter_cons_of_neg (by simp [h]), ih, List.filterMap_cons, if_neg h]
def spSub (C : Addr) : Sp := fun vs H Q _ => ∃ (p n w i : Nat), vs = [.ref p, .int i] ∧ TreeAt C H p n w ∧ i < n ∧ ∀ H' q, Same H H' → H q = none → H' q = some (.tup (vi (subL n w i))) → Q (.ref q) H'
theorem ok_sub (T : Tx K mg A) : FnOk P w K mg base CX0 6 A.f_t_subtree A.d_t_subtree ["self", "place"] (spSub A.C) := by
  refine T.F_t_subtree.ok sc_t_subtree (fun vs H Q E h => ?_) (fun cdv B outer s H vs Q E hr h => ?_)
  · obtain ⟨p, n, w, i, rfl, _⟩ := h
    rfl
  · obtain ⟨p, n, w, i, rfl, t, hi, q⟩ := h
    obtain ⟨dx, l, h1, h2⟩ := t.ob
    have noW : (tf n w l).lookup ("way_to" : Str) = none := tf_no _ _ _ (by decide +kernel) (by decide +kernel) (by decide +kernel)
    refine ⟨_, pss_cons (ps_expr (pe_call (ok_cp T) (hr.mono (by decide)) (by rfl) T.m_check_place T.F_check_place.kp (b_cp T) .nil pass0 (pa_cons (pv 1) (pa_cons (pe_fld (pv 0) rfl) pa_nil))))
      (pss_one (ps_ret (pe_callTy call_tuple_of (by rfl) T.g_tuple (by decide +kernel) (pa_cons
        (pe_lc (own := [("below", 2)]) (g := gName 2) rfl sc_t_subtree.nd (pi_tup (pe_fld (pv 0) rfl)) (blkOk_by (own := [("below", 2)]) (N := ["self", "place", "below"]) (sc := defScope s_t_subtree) (by decide +kernel)) (fun _ _ _ _ _ => pg_name (i := 2) sc_t_subtree.nd rfl (Or.inl rfl))
          (fun _ _ _ _ _ => pts_one (pt_cmpR (r := L2.rIn K false) op_in_seq (pv 1) (pe_meth (pv 0) T.cT T.M_t_way_to (ok_way T) hr (b_way T) .nil pass0 (pa_cons (pv 2) pa_nil)) (by rfl))) (fun _ _ _ _ _ => pv 2)) pa_nil)))), ?_⟩
    refine ⟨_, rfl, _, rfl, p, A.C, dx, _, _, rfl, h1, T.cT, T.nMany, tf_many _ _ _, _, _, rfl, ⟨by omega, by omega⟩, ?_⟩
    refine ⟨_, rfl, p, A.C, dx, _, _, rfl, h1, T.cT, T.nPl, tf_pl _ _ _, l, rfl, ⟨_, SqT.of h2⟩, fun D hD => ?_⟩
    refine lc_it (walk_tup (xs := pl n)) (PickI H D (List.range n) fun j => if i ∈ wayL w j then some (V.int (j : Nat)) else none) (pick_start hD) (fun k H' _ h => SqT.of (h.s _ _ h2)) ?_ ?_
    · rintro k x H2 H3 hk pk ⟨rfl, ex⟩
      obtain ⟨hk', rfl⟩ := map_at ex
      rw [List.getElem_range]
      rw [List.length_range] at hk'
      refine ⟨rfl, _, rfl, _, rfl, p, dx, _, rfl, pk.s _ _ h1, noW, _, rfl, p, n, w, k, rfl, t.same pk.s, hk', fun H4 r s4 r0 hr4 => ?_⟩
      refine ⟨r, _, rfl, .inr (SqT.of hr4), rfl, vi_flat _, _, rfl, ?_⟩
      show if (inV (V.int (i : Nat)) (vi (wayL w k))) = true then _ else _
      rw [mem_vi]
      by_cases hm : i ∈ wayL w k
      · rw [decide_eq_true hm]
        exact iteT ⟨_, rfl, pick_yes (by rw [List.length_range]; exact hk') (by rw [List.length_range]; have := t.hn; omega) (by rw [List.getElem_range, if_pos hm]) s4 pk⟩
      · rw [decide_eq_false hm]
        exact iteF (pick_no (by rw [List.length_range]; exact hk') (by rw [List.getElem_range, if_neg hm]) s4 pk)
    · intro H2 pk
      have ac := pick_end (by rw [pl_len, List.length_range]) pk
      refine ⟨D, _, rfl, .inl ⟨SqL.of ac.a, fun r hr0 => q _ r (ac.s.trans (Same.up hr0)) (ac.s.free hr0) ?_⟩⟩
      rw [upd_same, ← sub_pick]
def spSiz (C : Addr) : Sp := fun vs H Q _ => ∃ (p n w i : Nat), vs = [.ref p, .int i] ∧ TreeAt C H p n w ∧ i < n ∧ ∀ H', Same H H' → Q (.int (subL n w i).length) H'
theorem ok_siz (T : Tx K mg A) : FnOk P w K mg base CX0 7 A.f_t_size A.d_t_size ["self", "place"] (spSiz A.C) := by
  refine T.F_t_size.ok sc_t_size (fun vs H Q E h => ?_) (fun cdv B outer s H vs Q E hr h => ?_)
  · obtain ⟨p, n, w, i, rfl, _⟩ := h
    rfl
  · obtain ⟨p, n, w, i, rfl, t, hi, q⟩ := h
    obtain ⟨dx, l, h1, h2⟩ := t.ob
    have noS : (tf n w l).lookup ("subtree" : Str) = none := tf_no _ _ _ (by decide +kernel) (by decide +kernel) (by decide +kernel)
    refine ⟨_, pss_one (ps_ret (pe_callB call_len_seq (by rfl) T.g_len PySem.boot_len (pa_cons (pe_meth (pv 0) T.cT T.M_t_subtree (ok_sub T) hr (b_sub T) .nil pass0 (pa_cons (pv 1) pa_nil)) pa_nil))), ?_⟩
    refine ⟨_, rfl, p, dx, _, rfl, h1, noS, _, rfl, p, n, w, i, rfl, t, hi, fun H1 r s1 r0 hr1 => ?_⟩
    refine ⟨r, _, rfl, .inr (SqT.of hr1), ?_⟩
    rw [vi_len]
    exact q _ s1
/-- what stood before an instance was made stands behind its making -/
theorem new_same {C x dx : Addr} {H H' : Hp} (nx : H x = none) (ndx : H dx = none) (k : ∀ b o, (upd (upd H dx (.own x)) x (.ins C dx [])) b = some o → b ≠ x → H' b = some o) : Same H H' := fun b o e => by
  refine k b o ?_ (ne_of_none e nx)
  rw [upd_ne (ne_of_none e nx), upd_ne (ne_of_none e ndx)]
  exact e
end
end Tw

set_option Elab.async false
set_option linter.all false
set_option maxRecDepth 100000
set_option maxHeartbeats 2000000
namespace Tw
open PySem PySem.Spec PyProof.Rows L2
section
variable {P : Program} {w : World} {K : PySem.W.Frag} {mg : Str → Option Value} {base : Heap} {A : Ad}
open LamX (ExtN Tabs TabS)
theorem prod_ok : ∀ w, w < 5 → ∀ n, n < 13 → 1 ≤ w → 1 ≤ prodS n w n ∧ prodS n w n < 1073741824 := by decide +kernel
def spHm : Sp := fun vs H Q _ => ∃ (n w : Nat), vs = [.int n, .int w] ∧ n ≤ 12 ∧ (1 ≤ w ∧ w ≤ 4) ∧ ∀ H', Same H H' → Q (.int (howN n w : Nat)) H'
theorem ok_hm (T : Tx K mg A) : FnOk P w K mg base CX0 8 A.f_how_many A.d_how_many ["many", "arms"] spHm := by
  obtain ⟨mi, ki⟩ := kb_init T
  refine T.F_how_many.ok sc_how_many (fun vs H Q E h => ?_) (fun cdv B outer s H vs Q E hr h => ?_)
  · obtain ⟨n, w, rfl, _⟩ := h
    rfl
  · obtain ⟨n, w, rfl, hn, hw, q⟩ := h
    have nd := sc_how_many.nd
    refine ⟨_, PSs.nox (pss_cons (ps_set (i := 2) nd rfl (Or.inl rfl) (pe_makeK T.mkC (ok_init T) (hr.mono (by decide)) (by rfl) T.mC ki pass0 (pa_cons (pv 0) pa_nil) (pk_cons (pv 1) pk_nil)))
      (pss_cons (ps_set (i := 3) nd rfl (Or.inl rfl) pe_int)
      (C8.pss_cut (ps_for PassesOwn.never rfl (pi_own T.D_t___iter__ (ok_iter T) (hr.mono (by decide)) (b_iter T) (pv 2)) (pg_name (i := 4) nd rfl (Or.inl rfl)) (pss_one (ps_set (i := 3) nd rfl (Or.inl rfl) (pe_op op_mul (pv 3) (pe_meth (pv 2) T.cT T.M_t_size (ok_siz T) (hr.mono (by decide)) (b_siz T) .nil pass0 (pa_cons (pv 4) pa_nil))))))
      (pss_one (ps_ret (pe_op op_fdiv (pe_callBfun cr_fac (by rfl) T.b_factorial (pa_cons (pv 0) pa_nil)) (pv 3))))))), ?_⟩
    refine ⟨_, rfl, _, rfl, rfl, rfl, fun x dx nx ndx nex => ?_⟩
    refine ⟨x, dx, n, w, rfl, hn, hw, upd_same, fun H2 k2 t2 => ⟨rfl, ?_⟩⟩
    have s1 := new_same nx ndx k2
    obtain ⟨dx2, l, h1, h2⟩ := id t2.ob
    have noS : (tf n w l).lookup ("size" : Str) = none := tf_no _ _ _ (by decide +kernel) (by decide +kernel) (by decide +kernel)
    refine ⟨fun σ' H' => (∃ x4 : Option V, σ' = [some (.int n), some (.int w), some (.ref x), some (.int (prodS n w n : Nat)), x4]) ∧ Same H2 H', ?_, ?_⟩
    · refine ⟨_, rfl, x, dx2, _, l, _, rfl, h1, tf_pl _ _ _, SqT.of h2, ?_⟩
      refine for_it (walk_tup (xs := pl n)) (fun i σ' H' => (∃ x4 : Option V, σ' = [some (.int n), some (.int w), some (.ref x), some (.int (prodS n w i : Nat)), x4]) ∧ Same H2 H') ⟨⟨_, rfl⟩, Same.refl _⟩ (fun i σ' H' _ ⟨_, s⟩ => SqT.of (s _ _ h2)) ?_ ?_
      · rintro i y σ' H3o H3 hi ⟨⟨x4, rfl⟩, s3⟩ ⟨rfl, hy⟩
        obtain ⟨hi2, rfl⟩ := plAt hy
        refine ⟨_, rfl, _, rfl, x, dx2, _, rfl, s3 _ _ h1, noS, _, rfl, x, n, w, i, rfl, t2.same s3, hi2, fun H4 s4 => ?_⟩
        have hsz := sub_n n w i
        refine ⟨_, _, rfl, rfl, .inr ⟨by omega, by omega⟩, ⟨some (.int (i : Nat)), ?_⟩, s3.trans s4⟩
        rw [show prodS n w (i + 1) = prodS n w i * (subL n w i).length from rfl, Int.natCast_mul]
        rfl
      · rintro σ' H3 ⟨⟨x4, rfl⟩, s3⟩
        rw [pl_len]
        exact ⟨⟨x4, rfl⟩, s3⟩
    · rintro σ' H3 ⟨⟨x4, rfl⟩, s3⟩
      obtain ⟨p1, p2⟩ := prod_ok w (by omega) n (by omega) hw.1
      refine ⟨_, rfl, n, rfl, by omega, _, rfl, _, _, rfl, rfl, ⟨by omega, by omega⟩, ?_⟩
      have := q H3 (s1.trans s3)
      unfold howN at this
      rw [Int.natCast_ediv] at this
      exact this
def spKeys (K : PySem.W.Frag) : Sp := fun vs H Q _ => ∃ (d a : Addr) (ns : List Int) (k m s : Nat), vs = [.ref d, .int m, .int s] ∧ DrAt K H d a ns k ∧ k < 50000 ∧ m ≤ 12 ∧ 0 < s ∧
  ∀ (H' : Hp) (q : Addr) (ks : List Int) (k' : Nat), But d H H' → DrAt K H' d a ns k' → k' ≤ k + 14 → ks.length ≤ m → (∀ z ∈ ks, -((s : Int) / 2) ≤ z ∧ z < (s : Int) - (s : Int) / 2) → H q = none → H' q = some (.lst (ks.map V.int)) → Q (.ref q) H'
theorem ok_keys (T : Tx K mg A) : FnOk P w K mg base CX0 4 A.f__law_keys A.d__law_keys ["draw", "most", "span"] (spKeys K) := by
  refine T.F__law_keys.ok sc__law_keys (fun vs H Q E h => ?_) (fun cdv B outer s H vs Q E hr h => ?_)
  · obtain ⟨d, a, ns, k, m, s, rfl, _⟩ := h
    rfl
  · obtain ⟨d, a, ns, k, m, sp, rfl, dr, hk, hm, hs, q⟩ := h
    have nd := sc__law_keys.nd
    refine ⟨_, pss_one (ps_ret (pe_lc (own := [("turn", 3)]) (g := gName 3) (tt := tYes) rfl nd (pi_range1 rfl T.g_range (pa_cons (pe_call (ok_take T) hr (by rfl) T.m__law_take T.F__law_take.kp (b_take T) .nil pass0 (pa_cons (pv 0) (pa_cons (pe_op op_add (pv 1) pe_int) pa_nil))) pa_nil))
      (blkOk_by (own := [("turn", 3)]) (N := ["draw", "most", "span", "turn"]) (sc := defScope s__law_keys) (by decide +kernel))
      (fun _ _ _ _ _ => pg_name (i := 3) nd rfl (Or.inl rfl)) (fun _ _ _ _ _ => pts_nil)
      (fun _ _ _ _ _ => pe_op op_sub (pe_call (ok_take T) hr (by rfl) T.m__law_take T.F__law_take.kp (b_take T) .nil pass0 (pa_cons (pv 0) (pa_cons (pv 2) pa_nil)))
        (pe_callTy call_int1 (by rfl) T.g_int (by decide +kernel) (pa_cons (pe_op op_fdiv (pv 2) pe_int) pa_nil))))), ?_⟩
    refine ⟨_, rfl, _, rfl, _, _, rfl, rfl, d, a, ns, k, m + 1, rfl, dr, by omega, by omega, fun H1 r b1 dr1 hr1 => ?_⟩
    refine ⟨_, rfl, by omega, by omega, fun D hD => ?_⟩
    rw [Int.toNat_natCast]
    have hDd : D ≠ d := fun z => by rw [z, dr1.l] at hD; cases hD
    have hD0 : H D = none := by
      cases e : H D with
      | none => rfl
      | some o => rw [b1 D o hDd e] at hD; cases hD
    refine lc_it (walk_range (lo := 0) (n := r)) (fun i H' => ∃ ks : List Int, H' D = some (.lst (ks.map V.int)) ∧ ks.length = i ∧ (∀ z ∈ ks, -((sp : Int) / 2) ≤ z ∧ z < (sp : Int) - (sp : Int) / 2) ∧ But d H H' ∧ DrAt K H' d a ns (k + 1 + i))
      ⟨[], upd_same, rfl, fun z hz => (nomatch hz), ?_, ?_⟩ (fun k H' _ h => trivial) ?_ ?_
    · exact b1.trans (But.of (Same.up hD))
    · exact ⟨(Same.up hD) _ _ dr1.l, dr1.n, (Same.up hD).seq dr1.s, dr1.h⟩
    · rintro i x H2 H3 hi ⟨ks, h1, h2, h3, h4, h5⟩ ⟨rfl, ex⟩
      refine ⟨rfl, ?_⟩
      refine iteT (B := ∃ ks : List Int, H3 D = some (.lst (ks.map V.int)) ∧ ks.length = i + 1 ∧ (∀ z ∈ ks, -((sp : Int) / 2) ≤ z ∧ z < (sp : Int) - (sp : Int) / 2) ∧ But d H H3 ∧ DrAt K H3 d a ns (k + 1 + (i + 1))) ?_
      refine ⟨_, rfl, _, rfl, d, a, ns, k + 1 + i, sp, rfl, h5, by omega, hs, fun H4 v b4 dr4 hv => ?_⟩
      refine ⟨_, rfl, _, _, rfl, rfl, ⟨by decide, by decide⟩, .inl ⟨_, rfl, _, _, rfl, rfl, ?_⟩⟩
      have bf : ∀ zs : List V, But d H (upd H4 D (.lst zs)) := fun zs b o hb e => by
        rw [upd_ne (ne_of_none e hD0)]
        exact b4 _ _ hb (h4 b o hb e)
      refine ⟨_, b4 _ _ hDd h1, small1000 (by rw [List.length_map]; omega), ks ++ [(v : Int) - (sp : Int) / 2], ?_, by rw [List.length_append, h2]; rfl, ?_, ?_, ?_⟩
      · rw [upd_same, List.map_append]
        rfl
      · intro z hz
        rcases List.mem_append.mp hz with hz | hz
        · exact h3 z hz
        · rw [List.mem_singleton.mp hz]
          omega
      · exact bf _
      · exact ⟨by rw [upd_ne hDd.symm]; exact dr4.l, dr4.n, (bf _).seq dr.s dr.n, dr4.h⟩
    · rintro H2 ⟨ks, h1, h2, h3, h4, h5⟩
      exact q _ D ks _ h4 h5 (by omega) (by omega) h3 hD0 h1
def RowIn (H : Hp) (a : Addr) (ns : List Int) : Prop := Sq H a (ns.map V.int) ∧ ns.length ≤ 12 ∧ (∀ n ∈ ns, -1000000000 ≤ n ∧ n ≤ 1000000000)
theorem RowIn.same {H H' : Hp} {a : Addr} {ns : List Int} (h : RowIn H a ns) (s : Same H H') : RowIn H' a ns := ⟨h.1.same s, h.2⟩
def lheapB (ns : List Int) (w p : Nat) : Bool := (wayL w p).any fun q => decide (ns.getD p 0 < ns.getD q 0)
def lheap (ns : List Int) (w : Nat) : Bool := (List.range ns.length).all fun p => !lheapB ns w p
/-- the faults of a row -/
def faultB (ns : List Int) (w p : Nat) : Bool := decide (0 < p) && decide (ns.getD p 0 < ns.getD ((p - 1) / w) 0)
def faultL (ns : List Int) (w : Nat) : List Nat := (List.range ns.length).filter (faultB ns w)
theorem way_rec (w p : Nat) (hw : 1 ≤ w ∧ w ≤ 4) (hp : p ≤ 12) (h0 : 0 < p) : wayL w p = wayL w ((p - 1) / w) ++ [p] := by
  unfold wayL
  have e := up_eq w (by omega) p (by omega) hw.1
  rw [if_neg (by omega)] at e
  rw [e, List.reverse_cons]
theorem way_zero : ∀ w, w < 5 → 1 ≤ w → wayL w 0 = [0] := by decide +kernel
theorem no_fault {ns : List Int} {w : Nat} (hw : 1 ≤ w ∧ w ≤ 4) (hn : ns.length ≤ 12) (h : faultL ns w = []) : ∀ p, p < ns.length → ∀ q ∈ wayL w p, ns.getD q 0 ≤ ns.getD p 0 := by
  have h1 : ∀ p, p < ns.length → 0 < p → ns.getD ((p - 1) / w) 0 ≤ ns.getD p 0 := fun p hp h0 => by
    refine Int.not_lt.mp fun z => ?_
    have m : p ∈ faultL ns w := by
      unfold faultL
      refine List.mem_filter.mpr ⟨List.mem_range.mpr hp, ?_⟩
      unfold faultB
      rw [decide_eq_true h0, decide_eq_true z]
      rfl
    rw [h] at m
    cases m
  intro p
  induction p using Nat.strongRecOn with
  | _ p ih =>
    intro hp q hq
    by_cases h0 : 0 < p
    · have hlt : (p - 1) / w < p := Nat.lt_of_le_of_lt (Nat.div_le_self _ _) (by omega)
      rw [way_rec w p hw (by omega) h0] at hq
      rcases List.mem_append.mp hq with hq | hq
      · exact Int.le_trans (ih _ hlt (by omega) q hq) (h1 p hp h0)
      · rw [List.mem_singleton.mp hq]
        exact Int.le_refl _
    · obtain rfl : p = 0 := by omega
      rw [way_zero w (by omega) hw.1] at hq
      rw [List.mem_singleton.mp hq]
      exact Int.le_refl _
theorem self_sub : ∀ w, w < 5 → ∀ i, i < 13 → 1 ≤ w → i ∈ wayL w i := by decide +kernel
theorem par_way (w p : Nat) (hw : 1 ≤ w ∧ w ≤ 4) (hp : p ≤ 12) (h0 : 0 < p) : (p - 1) / w ∈ wayL w p := by
  rw [way_rec w p hw hp h0]
  have h := self_sub w (by omega) ((p - 1) / w) (by have := Nat.div_le_self (p - 1) w; omega) hw.1
  exact List.mem_append_left _ h
theorem lheap_fault (ns : List Int) (w : Nat) (hw : 1 ≤ w ∧ w ≤ 4) (hn : ns.length ≤ 12) : lheap ns w = decide (faultL ns w = []) := by
  by_cases h : faultL ns w = []
  · rw [decide_eq_true h]
    unfold lheap
    refine List.all_eq_true.mpr fun p hp => ?_
    have hp := List.mem_range.mp hp
    have z : lheapB ns w p = false := by
      unfold lheapB
      refine List.any_eq_false.mpr fun q hq => ?_
      have := no_fault hw hn h p hp q hq
      rw [decide_eq_false (by omega)]
      exact Bool.false_ne_true
    rw [z]
    rfl
  · rw [decide_eq_false h]
    obtain ⟨p, hp⟩ := List.exists_mem_of_ne_nil _ h
    unfold faultL at hp
    obtain ⟨h1, h2⟩ := List.mem_filter.mp hp
    unfold faultB at h2
    obtain ⟨h3, h4⟩ := Bool.and_eq_true_iff.mp h2
    have h3 := of_decide_eq_true h3
    unfold lheap
    refine List.all_eq_false.mpr ⟨p, h1, ?_⟩
    have hp12 : p ≤ 12 := by have := List.mem_range.mp h1; omega
    have z : lheapB ns w p = true := by
      unfold lheapB
      exact List.any_eq_true.mpr ⟨_, par_way w p hw hp12 h3, h4⟩
    rw [z]
    exact Bool.false_ne_true
theorem way_len : ∀ w, w < 5 → ∀ p, p < 13 → 1 ≤ w → (wayL w p).length ≤ 13 := by decide +kernel
def spLPar : Sp := fun vs H Q _ => ∃ (w i : Nat), vs = [.int w, .int i] ∧ (1 ≤ w ∧ w ≤ 4) ∧ 1 ≤ i ∧ Q (.int ((i - 1) / w : Nat)) H
theorem ok_lpar (T : Tx K mg A) : FnOk P w K mg base CX0 2 A.f__law_parent A.d__law_parent ["wide", "place"] spLPar := by
  refine T.F__law_parent.ok sc__law_parent (fun vs H Q E h => ?_) (fun cdv B outer s H vs Q E hr h => ?_)
  · obtain ⟨w, i, rfl, _⟩ := h
    rfl
  · obtain ⟨w, i, rfl, hw, hi, q⟩ := h
    refine ⟨_, pss_one (ps_ret (pe_op op_fdivN (pe_callTy call_int1 (by rfl) T.g_int (by decide +kernel) (pa_cons (pe_op op_sub (pv 1) pe_int) pa_nil)) (pv 0))), ?_⟩
    refine ⟨_, rfl, _, _, rfl, rfl, .inl ⟨_, rfl, _, rfl, _, _, rfl, rfl, ⟨by omega, by omega⟩, ?_⟩⟩
    have e : Int.fdiv ((i : Int) - 1) (w : Int) = ((i - 1) / w : Nat) := by
      rw [Int.fdiv_eq_ediv_of_nonneg _ (by omega), show ((i : Int) - 1) = ((i - 1 : Nat) : Int) by omega]
      rfl
    show Q (V.int (Int.fdiv ((i : Int) - 1) (w : Int))) H
    rw [e]
    exact q
def spLWay : Sp := fun vs H Q _ => ∃ (w i : Nat), vs = [.int w, .int i] ∧ (1 ≤ w ∧ w ≤ 4) ∧ i ≤ 12 ∧ ∀ H' q, Same H H' → H q = none → H' q = some (.lst (vi (wayL w i))) → Q (.ref q) H'
theorem up_head : ∀ w, w < 5 → ∀ p, p < 13 → 1 ≤ w → upL w p = p :: (upL w p).tail := by decide +kernel
theorem ok_lway (T : Tx K mg A) : FnOk P w K mg base CX0 3 A.f__law_way A.d__law_way ["wide", "place"] spLWay := by
  refine T.F__law_way.ok sc__law_way (fun vs H Q E h => ?_) (fun cdv B outer s H vs Q E hr h => ?_)
  · obtain ⟨w, i, rfl, _⟩ := h
    rfl
  · obtain ⟨w, i, rfl, hw, hi, q⟩ := h
    have nd := sc__law_way.nd
    refine ⟨_, pss_cons (ps_set (i := 2) nd rfl (Or.inl rfl) (pe_lst (pa_cons (pv 1) pa_nil)))
      (pss_cons (ps_for PassesOwn.never rfl (pi_range1 rfl T.g_range (pa_cons pe_int pa_nil)) (pg_name (i := 3) nd rfl (Or.inl rfl))
        (pss_cons (ps_if (pt_cmpR op_eq (pe_ix ix_list (pv 2) pe_int (fun _ _ => rfl)) pe_int (nomark _)) (pss_one (ps_ret (pv 2))) pss_nil)
        (pss_one (ps_set (i := 2) nd rfl (Or.inl rfl) (pe_op op_cat (pe_lst (pa_cons (pe_call (ok_lpar T) hr (by rfl) T.m__law_parent T.F__law_parent.kp (b_lpar T) .nil pass0 (pa_cons (pv 0) (pa_cons (pe_ix ix_list (pv 2) pe_int (fun _ _ => rfl)) pa_nil))) pa_nil)) (pv 2))))))
      (pss_one (ps_ret (pv 2)))), ?_⟩
    refine ⟨_, rfl, by show 1 ≤ sizeLine; decide, fun d hd => ?_⟩
    refine ⟨20, rfl, by decide, by decide, for_range (n := 20) (fun k σ H' => ∃ (c : Nat) (L : List Nat) (a : Addr) (z : Option V), σ = [some (.int w), some (.int i), some (.ref a), z] ∧ Same H H' ∧ H a = none ∧ H' a = some (.lst (vi (c :: L))) ∧
      wayL w i = (upL w c).tail.reverse ++ (c :: L) ∧ c + k ≤ 12) ⟨i, [], d, none, rfl, Same.up hd, hd, upd_same, ?_, by omega⟩ ?_ ?_⟩
    · unfold wayL
      have h := up_head w (by omega) i (by omega) hw.1
      rw [h, List.reverse_cons]
      rfl
    · rintro k σ H' hk ⟨c, L, a, z, rfl, s1, a0, ha, eq, hc⟩
      have hat : atI (vi (c :: L)) 0 = some (V.int (c : Nat)) := atI_nat (j := 0) rfl
      refine ⟨_, rfl, a, _, _, _, rfl, rfl, SqL.of ha, hat, rfl, _, rfl, ?_⟩
      by_cases h0 : c = 0
      · rw [decide_eq_true (show V.int (c : Nat) = V.int 0 by rw [h0]; rfl)]
        refine iteT ⟨_, rfl, q _ a s1 a0 ?_⟩
        subst h0
        have e0 := up_eq w (by omega) 0 (by omega) hw.1
        rw [if_pos rfl] at e0
        rw [e0] at eq
        rw [ha, eq]
        rfl
      · rw [decide_eq_false (show ¬ V.int (c : Nat) = V.int 0 by intro z; injection z with z; omega)]
        refine iteF ?_
        have hlt : (c - 1) / w < c := Nat.lt_of_le_of_lt (Nat.div_le_self _ _) (by omega)
        have e1 := up_eq w (by omega) c (by omega) hw.1
        rw [if_neg h0] at e1
        have e2 := up_head w (by omega) ((c - 1) / w) (by omega) hw.1
        have hlen : (c :: L).length ≤ 13 := by
          have h3 := way_len w (by omega) i (by omega) hw.1
          rw [eq, List.length_append] at h3
          omega
        refine ⟨_, rfl, _, rfl, a, _, _, _, rfl, rfl, SqL.of ha, hat, w, c, rfl, hw, by omega, by show 1 ≤ sizeLine; decide, fun a2 ha2 => ?_⟩
        have s2 : Same H' (upd H' a2 (.lst [V.int ((c - 1) / w : Nat)])) := Same.up ha2
        refine ⟨_, rfl, a2, a, _, _, rfl, rfl, upd_same, s2 _ _ ha, ?_, fun a3 ha3 => ?_⟩
        · rw [vi_len]
          exact Nat.le_of_lt (small1000 (by rw [List.length_singleton]; omega))
        · refine ⟨(c - 1) / w, c :: L, a3, _, rfl, s1.trans (s2.trans (Same.up ha3)), (s1.trans s2).free ha3, upd_same, ?_, by omega⟩
          rw [eq, e1, List.tail_cons]
          conv => lhs; rw [e2]
          rw [List.reverse_cons, List.append_assoc]
          rfl
    · rintro σ H' ⟨c, L, a, z, rfl, s1, a0, ha, eq, hc⟩
      omega
theorem b_lway (T : Tx K mg A) : L2.Binds K A.d__law_way ["wide", "place"] [] := T.F__law_way.binds fun _ _ _ _ _ _ us hl => match us, hl with | [_, _], _ => rfl
theorem ix_sq {H : Hp} {a : Addr} {ns : List Int} {i : Nat} {Q : VK} (h : Sq H a (ns.map V.int)) (hi : i < ns.length) (q : Q (.int (ns.getD i 0)) H) : rIx K (.ref a) (.int i) H Q := by
  have e : (ns.map V.int)[i]? = some (V.int (ns.getD i 0)) := by
    rw [List.getElem?_map, List.getElem?_eq_getElem hi, List.getD_eq_getElem?_getD, List.getElem?_eq_getElem hi]
    rfl
  rcases h with h | h
  · exact .inl ⟨a, _, _, _, rfl, rfl, SqL.of h, atI_nat e, q⟩
  · exact .inr (.inl ⟨a, _, _, _, rfl, rfl, SqT.of h, atI_nat e, q⟩)
theorem way_le : ∀ w, w < 5 → ∀ p, p < 13 → 1 ≤ w → ∀ q ∈ wayL w p, q ≤ p := by decide +kernel
def spLIs : Sp := fun vs H Q _ => ∃ (a w : Nat) (ns : List Int), vs = [.ref a, .int w] ∧ (1 ≤ w ∧ w ≤ 4) ∧ RowIn H a ns ∧ ∀ H', Same H H' → Q (.bl (lheap ns w)) H'
theorem ok_lis (T : Tx K mg A) : FnOk P w K mg base CX0 4 A.f__law_is_heap A.d__law_is_heap ["row", "wide"] spLIs := by
  refine T.F__law_is_heap.ok sc__law_is_heap (fun vs H Q E h => ?_) (fun cdv B outer s H vs Q E hr h => ?_)
  · obtain ⟨a, w, ns, rfl, _⟩ := h
    rfl
  · obtain ⟨a, w, ns, rfl, hw, hrow, q⟩ := h
    have nd := sc__law_is_heap.nd
    have hlen := hrow.2.1
    refine ⟨_, pss_cons (ps_for PassesOwn.never rfl (pi_range1 rfl T.g_range (pa_cons (pe_callB call_len_seq (by rfl) T.g_len PySem.boot_len (pa_cons (pv 0) pa_nil)) pa_nil)) (pg_name (i := 2) nd rfl (Or.inr rfl))
      (pss_one (ps_if (pt_val (pe_callB (cr_any rfl) (by rfl) T.g_any (by decide +kernel) (pa_cons
        (pe_lc (own := [("above", 3)]) (g := gName 3) (tt := tYes) rfl nd (pi_list (pe_call (ok_lway T) hr (by rfl) T.m__law_way T.F__law_way.kp (b_lway T) .nil pass0 (pa_cons (pv 1) (pa_cons (pv 2) pa_nil))))
          (blkOk_by (own := [("above", 3)]) (N := ["row", "wide", "place", "above"]) (sc := defScope s__law_is_heap) (by decide +kernel)) (fun _ _ _ _ _ => pg_name (i := 3) nd rfl (Or.inl rfl)) (fun _ _ _ _ _ => pts_nil)
          (fun _ _ _ _ _ => pe_cmpR op_lt (pe_ix (r := rIx K) ix_seq (pv 0) (pv 2) (fun _ _ => rfl)) (pe_ix (r := rIx K) ix_seq (pv 0) (pv 3) (fun _ _ => rfl)) (nomark _))) pa_nil))) (pss_one (ps_ret pe_bl)) pss_nil)))
      (pss_one (ps_ret pe_bl)), ?_⟩
    refine ⟨_, rfl, a, _, rfl, hrow.1.len, _, rfl, by omega, by rw [List.length_map]; omega, ?_⟩
    rw [Int.toNat_natCast, List.length_map]
    refine for_range (n := ns.length) (fun k σ H' => ∃ z u, σ = [some (.ref a), some (.int w), z, u] ∧ Same H H' ∧ ∀ p, p < k → lheapB ns w p = false) ⟨none, none, rfl, Same.refl _, fun p hp => (nomatch hp)⟩ ?_ ?_
    · rintro k σ H' hk ⟨z, u, rfl, s1, hno⟩
      have z0 : V.int ((0 : Int) + (k : Nat)) = V.int (k : Nat) := by rw [Int.zero_add]
      rw [z0]
      refine ⟨_, rfl, _, rfl, w, k, rfl, hw, by omega, fun H2 b s2 b0 hb => ?_⟩
      have hwl := way_len w (by omega) k (by omega) hw.1
      refine ⟨b, rfl, ⟨_, SqL.of hb⟩, fun D hD => ?_⟩
      refine lc_it (walk_list (xs := vi (wayL w k))) (PickI H2 D (wayL w k) fun q => some (V.bl (decide (ns.getD k 0 < ns.getD q 0)))) (pick_start hD) (fun k H' _ h => SqL.of (h.s _ _ hb)) ?_ ?_
      · rintro j x H5 H6 hj pk ⟨rfl, ex⟩
        obtain ⟨hj', rfl⟩ := map_at ex
        have hq : (wayL w k)[j] < ns.length := by
          have h := way_le w (by omega) k (by omega) hw.1 _ (List.getElem_mem hj')
          omega
        have hr6 := (hrow.1.same s1).same (s2.trans pk.s)
        refine ⟨rfl, ?_⟩
        refine iteT (B := PickI H2 D (wayL w k) (fun q => some (V.bl (decide (ns.getD k 0 < ns.getD q 0)))) (j + 1) H6) ?_
        exact ⟨_, rfl, _, rfl, ix_sq hr6 hk ⟨_, rfl, _, rfl, ix_sq hr6 hq ⟨_, _, rfl, rfl, pick_yes hj' (by omega) rfl (Same.refl _) pk⟩⟩⟩
      · intro H5 pk
        have ac := pick_end (vi_len _) pk
        have e : ((wayL w k).filterMap fun q => some (V.bl (decide (ns.getD k 0 < ns.getD q 0)))) = ((wayL w k).map fun q => decide (ns.getD k 0 < ns.getD q 0)).map V.bl := by
          rw [List.filterMap_eq_map', List.map_map]
          rfl
        rw [e] at ac
        refine ⟨D, _, rfl, SqL.of ac.a, _, rfl, ?_⟩
        have ea : ((wayL w k).map fun q => decide (ns.getD k 0 < ns.getD q 0)).any id = lheapB ns w k := by
          rw [List.any_map]
          rfl
        rw [ea]
        have s5 := s1.trans (s2.trans ac.s)
        cases hb2 : lheapB ns w k with
        | true =>
          refine iteT ?_
          have el : lheap ns w = false := by
            unfold lheap
            refine List.all_eq_false.mpr ⟨k, List.mem_range.mpr hk, ?_⟩
            rw [hb2]
            exact Bool.false_ne_true
          rw [el] at q
          exact q _ s5
        | false =>
          refine iteF ⟨_, _, rfl, s5, fun p hp => ?_⟩
          by_cases e2 : p = k
          · rw [e2, hb2]
          · exact hno p (by omega)
    · rintro σ H' ⟨z, u, rfl, s1, hno⟩
      have el : lheap ns w = true := by
        unfold lheap
        refine List.all_eq_true.mpr fun p hp => ?_
        rw [hno p (List.mem_range.mp hp)]
        rfl
      rw [el] at q
      exact q _ s1
theorem b_lis (T : Tx K mg A) : L2.Binds K A.d__law_is_heap ["row", "wide"] [] := T.F__law_is_heap.binds fun _ _ _ _ _ _ us hl => match us, hl with | [_, _], _ => rfl
/-- a tuple of keys at an address -/
def RowAt (H : Hp) (v : V) (l : List Int) : Prop := ∃ t, v = .ref t ∧ H t = some (.tup (l.map V.int))
abbrev RowsAt (H : Hp) : List V → List (List Int) → Prop := Paired (RowAt H)
theorem RowsAt.same {H H' : Hp} {xs : List V} {ls : List (List Int)} (h : RowsAt H xs ls) (s : Same H H') : RowsAt H' xs ls := L2.Paired.mapP h fun _ _ ⟨t, e, z⟩ => ⟨t, e, s _ _ z⟩
theorem RowsAt.push {H : Hp} {x : V} {l : List Int} (hp : RowAt H x l) : ∀ {xs : List V} {ls : List (List Int)}, RowsAt H xs ls → RowsAt H (xs ++ [x]) (ls ++ [l])
  | _, _, .nil => .cons hp .nil
  | _, _, .cons a b => .cons a (RowsAt.push hp b)
theorem RowsAt.get {H : Hp} : ∀ {xs : List V} {ls : List (List Int)} {i : Nat} {x : V}, RowsAt H xs ls → xs[i]? = some x → ∃ hi : i < ls.length, RowAt H x ls[i]
  | _, _, 0, _, .cons a _, e => ⟨Nat.succ_pos _, by rw [← Option.some.inj e]; exact a⟩
  | _, _, i + 1, _, .cons _ b, e => by
    obtain ⟨hi, r⟩ := RowsAt.get b (by simpa using e)
    exact ⟨Nat.succ_lt_succ hi, r⟩
structure AccR (H1 : Hp) (D : Addr) (ls : List (List Int)) (H : Hp) : Prop where
  s : Same H1 H
  n : H1 D = Option.none
  a : ∃ xs, H D = some (.lst xs) ∧ RowsAt H xs ls
theorem AccR.start {H1 : Hp} {D : Addr} (n : H1 D = none) : AccR H1 D [] (upd H1 D (.lst [])) := ⟨Same.up n, n, [], upd_same, .nil⟩
theorem AccR.same {H1 H H' : Hp} {D : Addr} {ls : List (List Int)} (h : AccR H1 D ls H) (s : Same H H') : AccR H1 D ls H' := ⟨h.s.trans s, h.n, let ⟨xs, e, z⟩ := h.a; ⟨xs, s _ _ e, z.same s⟩⟩
theorem RowsAt.put {H : Hp} {D : Addr} {xs zs ys : List V} {ls : List (List Int)} (hD : H D = some (.lst zs)) (h : RowsAt H xs ls) : RowsAt (upd H D (.lst ys)) xs ls :=
  L2.Paired.mapP h fun _ _ ⟨t, e, z⟩ => ⟨t, e, by rw [upd_ne (ne_of z hD (by intro q; cases q))]; exact z⟩
theorem AccR.push {H1 H : Hp} {D : Addr} {ls : List (List Int)} {x : V} {l : List Int} (h : AccR H1 D ls H) (hp : RowAt H x l) (hl : ls.length < sizeLine) :
    ∃ acc, H D = some (.lst acc) ∧ acc.length < sizeLine ∧ AccR H1 D (ls ++ [l]) (upd H D (.lst (acc ++ [x]))) := by
  obtain ⟨xs, e, z⟩ := h.a
  refine ⟨xs, e, by rw [z.length]; exact hl, fun b o k => ?_, h.n, xs ++ [x], upd_same, (RowsAt.push hp z).put e⟩
  rw [upd_ne (ne_of_none k h.n)]
  exact h.s b o k
theorem insA_len (x : Int) : ∀ l : List Int, (insA x l).length ≤ l.length + 1
  | [] => Nat.le_refl _
  | y :: l => by
    unfold insA
    have := insA_len x l
    split
    · exact Nat.le_refl _
    · split
      · exact Nat.le_succ _
      · simp only [List.length_cons]
        omega
theorem ascL_len : ∀ l : List Int, (ascL l).length ≤ l.length
  | [] => Nat.le_refl _
  | x :: l => by
    have a := ascL_len l
    have b := insA_len x (ascL l)
    show (insA x (ascL l)).length ≤ l.length + 1
    omega
theorem flat_len {α β : Type} (f : α → List β) (c : Nat) : ∀ l : List α, (∀ a ∈ l, (f a).length ≤ c) → (l.flatMap f).length ≤ l.length * c
  | [], _ => by simp
  | a :: l, h => by
    have h1 := h a List.mem_cons_self
    have h2 := flat_len f c l fun b hb => h b (List.mem_cons_of_mem _ hb)
    rw [List.flatMap_cons, List.length_append, List.length_cons, Nat.succ_mul]
    omega
end
end Tw

set_option Elab.async false
set_option linter.all false
set_option maxRecDepth 100000
set_option maxHeartbeats 2000000
namespace Tw
open PySem PySem.Spec PyProof.Rows L2
section
variable {P : Program} {w : World} {K : PySem.W.Frag} {mg : Str → Option Value} {base : Heap} {A : Ad}
open LamX (ExtN Tabs TabS)
theorem perms_len : ∀ (n : Nat) (l : List Int), l.length ≤ 6 → (permsL n l).length ≤ 6 ^ n
  | 0, _, _ => Nat.le_refl _
  | n + 1, l, h => by
    unfold permsL
    have hf := flat_len (fun x => (permsL n (l.erase x)).map fun s => x :: s) (6 ^ n) (ascL l) fun x hx => by
      rw [List.length_map]
      refine perms_len n _ ?_
      have := List.length_erase_le (a := x) (l := l)
      omega
    have h2 := ascL_len l
    rw [Nat.pow_succ, Nat.mul_comm]
    exact Nat.le_trans hf (Nat.mul_le_mul_right _ (by omega))
theorem heap_fault (r : List Int) (w : Nat) : heapB w r = decide (faultL r w = []) := by
  have e : ∀ p, (decide (p = 0) || decide (r.getD ((p - 1) / w) 0 ≤ r.getD p 0)) = !faultB r w p := fun p => by
    unfold faultB
    by_cases h : p = 0
    · subst h
      simp
    · rw [decide_eq_false h, Bool.false_or, decide_eq_true (show 0 < p by omega), Bool.true_and]
      by_cases c : r.getD p 0 < r.getD ((p - 1) / w) 0
      · rw [decide_eq_true c, decide_eq_false (by omega)]
        rfl
      · rw [decide_eq_false c, decide_eq_true (by omega)]
        rfl
  unfold heapB faultL
  by_cases h : (List.range r.length).filter (faultB r w) = []
  · rw [decide_eq_true h, List.all_eq_true]
    intro p hp
    rw [e]
    rw [List.filter_eq_nil_iff] at h
    have := h p hp
    simpa using this
  · rw [decide_eq_false h]
    cases c : (List.range r.length).all fun c => decide (c = 0) || decide (r.getD ((c - 1) / w) 0 ≤ r.getD c 0) with
    | false => rfl
    | true =>
      exfalso
      refine h (List.filter_eq_nil_iff.mpr fun p hp z => ?_)
      have := List.all_eq_true.mp c p hp
      rw [e, z] at this
      cases this
theorem perms_el : ∀ (n : Nat) (l r : List Int), r ∈ permsL n l → r.length = n
  | 0, _, r, h => by
    rw [List.mem_singleton.mp h]
    rfl
  | n + 1, l, r, h => by
    obtain ⟨x, _, h2⟩ := List.mem_flatMap.mp h
    obtain ⟨t, h3, rfl⟩ := List.mem_map.mp h2
    rw [List.length_cons, perms_el n _ t h3]
theorem b_ll (T : Tx K mg A) : L2.Binds K A.d__law_lists ["keys"] [] := T.F__law_lists.binds fun _ _ _ _ _ _ us hl => match us, hl with | [_], _ => rfl
theorem sorted_one {xs ys : List Int} (hp : xs.Perm ys) (h1 : xs.Pairwise (· ≤ ·)) (h2 : ys.Pairwise (· ≤ ·)) : xs = ys := List.Perm.eq_of_pairwise (fun x y _ _ h1 h2 => Int.le_antisymm h1 h2) h1 h2 hp
theorem ascL_perm {l m : List Int} (h : l.Perm m) : ascL l = ascL m := asc_eq (ascL_asc l) (ascL_asc m) fun x => by rw [ascL_mem, ascL_mem, h.mem_iff]
theorem permsL_perm : ∀ (n : Nat) {l m : List Int}, l.Perm m → permsL n l = permsL n m
  | 0, _, _, _ => rfl
  | n + 1, l, m, h => by
    unfold permsL
    rw [ascL_perm h]
    refine congrArg (fun f => (ascL m).flatMap f) (funext fun x => ?_)
    rw [permsL_perm n (h.erase x)]
def firstB (s : List Int) (j : Nat) : Bool := decide (j = 0) || decide (s.getD (j - 1) 0 ≠ s.getD j 0)
theorem getD_at {s : List Int} {j : Nat} (h : j < s.length) : s.getD j 0 = s[j] := by
  rw [List.getD_eq_getElem?_getD, List.getElem?_eq_getElem h]
  rfl
def ordL (s : List Int) (i : Nat) : List (List Int) := ((List.range i).filter (firstB s)).flatMap fun j => (permsL (s.length - 1) (s.eraseIdx j)).map fun r => s.getD j 0 :: r
theorem srt_le {s : List Int} (hs : s.Pairwise (· ≤ ·)) {i j : Nat} (h : i ≤ j) (hj : j < s.length) : s.getD i 0 ≤ s.getD j 0 := by
  rw [getD_at (by omega), getD_at hj]
  rcases Nat.lt_or_ge i j with c | c
  · exact List.pairwise_iff_getElem.mp hs i j (by omega) hj c
  · have : i = j := by omega
    subst this
    exact Int.le_refl _
theorem first_ex (s : List Int) : ∀ j, j < s.length → ∃ i, i < s.length ∧ firstB s i = true ∧ s.getD i 0 = s.getD j 0
  | 0, h => ⟨0, h, rfl, rfl⟩
  | j + 1, h => by
    by_cases e : s.getD j 0 = s.getD (j + 1) 0
    · obtain ⟨i, h1, h2, h3⟩ := first_ex s j (by omega)
      exact ⟨i, h1, h2, h3.trans e⟩
    · refine ⟨j + 1, h, ?_, rfl⟩
      unfold firstB
      rw [Nat.add_sub_cancel, decide_eq_true e, Bool.or_true]
theorem asc_first {s : List Int} (hs : s.Pairwise (· ≤ ·)) : ascL s = ((List.range s.length).filter (firstB s)).map fun j => s.getD j 0 := by
  refine asc_eq (ascL_asc s) ?_ fun x => ?_
  · rw [List.pairwise_map]
    refine List.Pairwise.imp_of_mem (fun {i j} hi hj h => ?_) (List.Pairwise.filter _ List.pairwise_lt_range)
    have hj2 := List.mem_range.mp (List.mem_filter.mp hj).1
    have f := (List.mem_filter.mp hj).2
    unfold firstB at f
    rw [Bool.or_eq_true, decide_eq_true_eq, decide_eq_true_eq] at f
    have a := srt_le hs (show i ≤ j - 1 by omega) (by omega)
    have b := srt_le hs (show j - 1 ≤ j by omega) hj2
    rcases f with e | e <;> omega
  · rw [ascL_mem, List.mem_map]
    refine ⟨fun h => ?_, fun ⟨j, h1, h2⟩ => ?_⟩
    · obtain ⟨j, hj, e⟩ := List.getElem_of_mem h
      obtain ⟨i, h1, h2, h3⟩ := first_ex s j hj
      exact ⟨i, List.mem_filter.mpr ⟨List.mem_range.mpr h1, h2⟩, by rw [h3, getD_at hj, e]⟩
    · have hj := List.mem_range.mp (List.mem_filter.mp h1).1
      rw [← h2, getD_at hj]
      exact List.getElem_mem hj
theorem at_perm : ∀ (s : List Int) (j : Nat) (h : j < s.length), (s[j] :: s.eraseIdx j).Perm s
  | a :: l, 0, _ => List.Perm.refl _
  | a :: l, j + 1, h => (List.Perm.swap a _ _).trans ((at_perm l j (Nat.lt_of_succ_lt_succ h)).cons a)
theorem ord_end {s : List Int} (hs : s.Pairwise (· ≤ ·)) (hn : s ≠ []) : ordL s s.length = permsL s.length s := by
  have hl := List.length_pos_iff.mpr hn
  obtain ⟨m, hm⟩ : ∃ m, s.length = m + 1 := ⟨s.length - 1, by omega⟩
  unfold ordL
  rw [hm, Nat.add_sub_cancel]
  show _ = (ascL s).flatMap fun x => (permsL m (s.erase x)).map fun r => x :: r
  rw [asc_first hs, List.flatMap_map, hm]
  refine flat_congr _ fun j hj => ?_
  have hj2 : j < s.length := by
    rw [hm]
    exact List.mem_range.mp (List.mem_filter.mp hj).1
  rw [getD_at hj2]
  refine congrArg (List.map _) (permsL_perm m ?_)
  have h1 : (s[j] :: s.eraseIdx j).Perm s := at_perm s j hj2
  have h2 : s.Perm (s[j] :: s.erase s[j]) := List.perm_cons_erase (List.getElem_mem hj2)
  exact (List.perm_cons _).mp (h1.trans h2)
theorem ord_succ (s : List Int) (i : Nat) : ordL s (i + 1) = ordL s i ++ (if firstB s i = true then (permsL (s.length - 1) (s.eraseIdx i)).map fun r => s.getD i 0 :: r else []) := by
  unfold ordL
  rw [List.range_succ, List.filter_append, List.flatMap_append]
  by_cases h : firstB s i = true
  · rw [if_pos h, List.filter_cons_of_pos h]
    simp
  · rw [if_neg h, List.filter_cons_of_neg h]
    simp
theorem ord_len (s : List Int) (h : s.length ≤ 6) : ∀ i, i ≤ s.length → (ordL s i).length ≤ i * 7776
  | 0, _ => by simp [ordL]
  | i + 1, hi => by
    have h1 := ord_len s h i (by omega)
    have h2 : (permsL (s.length - 1) (s.eraseIdx i)).length ≤ 7776 := by
      refine Nat.le_trans (perms_len _ _ (by rw [List.length_eraseIdx]; split <;> omega)) ?_
      have : ∀ k, k < 6 → 6 ^ k ≤ 7776 := by decide
      exact this _ (by omega)
    rw [ord_succ, List.length_append]
    by_cases c : firstB s i = true
    · rw [if_pos c, List.length_map]
      omega
    · rw [if_neg c]
      have : ([] : List (List Int)).length = 0 := rfl
      omega
def spLL (n : Nat) : Sp := fun vs H Q _ => ∃ (k : Nat) (ks : List Int), vs = [.ref k] ∧ H k = some (.lst (ks.map V.int)) ∧ ks.length < n ∧ ks.length ≤ 6 ∧
  ∀ (H' : Hp) (q : Addr) (xs : List V), Same H H' → H q = none → H' q = some (.lst xs) → RowsAt H' xs (permsL ks.length ks) → Q (.ref q) H'
theorem era_map : ∀ (l : List Int) (i : Nat), (l.map V.int).eraseIdx i = (l.eraseIdx i).map V.int
  | [], _ => rfl
  | _ :: _, 0 => rfl
  | a :: l, i + 1 => by
    rw [List.map_cons, List.eraseIdx_cons_succ, List.eraseIdx_cons_succ, List.map_cons, era_map l i]
theorem RowsAt.app {H : Hp} : ∀ {xs ys : List V} {ls ms : List (List Int)}, RowsAt H xs ls → RowsAt H ys ms → RowsAt H (xs ++ ys) (ls ++ ms)
  | _, _, _, _, .nil, h => h
  | _, _, _, _, .cons a b, h => .cons a (RowsAt.app b h)
theorem lc_go {n : Nat} {H : Hp} {k q1 r : Addr} {i x : Int} {xs : List V} {ls : List (List Int)} {l : List Int} {Q : VK} (hq : H q1 = some (.lst xs)) (hr : RowsAt H xs ls) (hl : H r = some (.lst (l.map V.int))) (hn : l.length < n) (h6 : l.length ≤ 5) (hls : ls.length ≤ 60000)
    (q : ∀ (H' : Hp) (q2 : Addr) (ys : List V), Same H H' → H q2 = none → H' q2 = some (.lst ys) → RowsAt H' ys (ls ++ (permsL l.length l).map fun z => x :: z) → Q (.ref q2) H') :
    tOp rCat (tVar 1) (tLc (iList K (tCall (spLL n) [] E0 (tCons (tVar 4) tNil))) (gName 5) tYes (tOp (rCatA K) (tTup (tCons (tVar 3) tNil)) (tVar 5)) [5]) [some (.ref k), some (.ref q1), some (.int i), some (.int x), some (.ref r), none] H Q := by
  have hp : (permsL l.length l).length ≤ 7776 := by
    refine Nat.le_trans (perms_len _ _ (by omega)) ?_
    have : ∀ k, k < 6 → 6 ^ k ≤ 7776 := by decide
    exact this _ (by omega)
  refine ⟨_, rfl, _, rfl, r, l, rfl, hl, hn, by omega, fun H1 p ys s1 np ep rp => ?_⟩
  refine ⟨p, rfl, ⟨_, SqL.of ep⟩, fun D nD => ?_⟩
  have hyl : ys.length = (permsL l.length l).length := Paired.length rp
  refine lc_it (walk_list (xs := ys)) (fun j H' => AccR H1 D (((permsL l.length l).take j).map fun z => x :: z) H') (AccR.start nD) (fun j H' _ ac => SqL.of (ac.s _ _ ep)) ?_ ?_
  · rintro j y H2o H2 hj ac ⟨rfl, hy⟩
    obtain ⟨hj2, t, rfl, et⟩ := rp.get hy
    have et2 := ac.s _ _ et
    refine ⟨rfl, iteT (B := AccR H1 D (((permsL l.length l).take (j + 1)).map fun z => x :: z) H2) ?_⟩
    refine ⟨_, rfl, by show 1 ≤ sizeLine; decide, fun u nu => ?_⟩
    have su := Same.up (o := .tup [V.int x]) nu
    have fin : ∀ (c : Addr) (G : Hp), Same H2 G → G c = some (.tup ((x :: (permsL l.length l)[j]).map V.int)) → ∃ acc, G D = some (.lst acc) ∧ acc.length < sizeLine ∧ AccR H1 D (((permsL l.length l).take (j + 1)).map fun z => x :: z) (upd G D (.lst (acc ++ [V.ref c]))) := fun c G s ec => by
      have h := (ac.same s).push (x := .ref c) (l := x :: (permsL l.length l)[j]) ⟨c, rfl, ec⟩ (by rw [List.length_map, List.length_take, sizeLine_eq]; omega)
      rw [← List.take_append_getElem hj2, List.map_append]
      exact h
    have h6j : (permsL l.length l)[j].length ≤ 100 := by
      rw [perms_el _ _ _ (List.getElem_mem hj2)]
      omega
    refine ⟨_, rfl, u, t, _, _, rfl, rfl, SqT.of upd_same, SqT.of (su _ _ et2), Nat.le_of_lt (small1000 (by rw [List.length_map, List.length_singleton]; omega)), fun z => (nomatch z), fun _ z => ?_, fun _ _ c nc => ?_⟩
    · have e0 : (permsL l.length l)[j] = [] := List.map_eq_nil_iff.mp z
      refine fin u _ su ?_
      rw [e0]
      exact upd_same
    · exact fin c _ (su.trans (Same.up nc)) upd_same
  · intro H2 ac
    rw [hyl, List.take_length] at ac
    obtain ⟨zs, ez, rz⟩ := ac.a
    have s12 := s1.trans ac.s
    refine ⟨q1, D, xs, zs, rfl, rfl, s12 _ _ hq, ez, ?_, fun q2 n2 => q _ q2 (xs ++ zs) (s12.trans (Same.up n2)) (s12.free n2) upd_same (RowsAt.same ((hr.same s12).app rz) (Same.up n2))⟩
    have e1 : xs.length = ls.length := Paired.length hr
    have e2 : zs.length = _ := Paired.length rz
    rw [List.length_map] at e2
    rw [sizeLine_eq]
    omega
theorem ok_ll (T : Tx K mg A) : ∀ n, FnOk P w K mg base CX0 (n + 1) A.f__law_lists A.d__law_lists ["keys"] (spLL n)
  | 0 => by
    refine T.F__law_lists.ok sc__law_lists (fun vs H Q E h => ?_) (fun cdv B outer s H vs Q E hr h => ?_)
    · obtain ⟨k, ks, rfl, _⟩ := h
      rfl
    · obtain ⟨k, ks, rfl, _, h, _⟩ := h
      exact absurd h (Nat.not_lt_zero _)
  | n + 1 => by
    have ih := ok_ll T n
    refine T.F__law_lists.ok sc__law_lists (fun vs H Q E h => ?_) (fun cdv B outer s H vs Q E hr h => ?_)
    · obtain ⟨k, ks, rfl, _⟩ := h
      rfl
    · obtain ⟨k, ks, rfl, hk, hlt, h6, q⟩ := h
      have nd := sc__law_lists.nd
      have hu : (B.deeper (envOfC "_law_lists" (defScope s__law_lists) s.heap.objs.size A.f__law_lists cdv)).units + 64 < cLine := by have := hr.un; omega
      refine ⟨_, (pss_cons (ps_if (pt_cmpR (op_eqD hu) (pv 0) (pe_lst pa_nil) (nomark _)) (pss_one (ps_ret (pe_lst (pa_cons (pe_tup pa_nil) pa_nil)))) pss_nil)
      (pss_cons (ps_set (i := 1) nd rfl (Or.inl rfl) (pe_lst pa_nil))
      (C8.pss_cut (ps_for PassesOwn.never rfl (pi_enum (by rfl) T.g_enumerate (pa_cons (pe_callB cr_sortedI (by rfl) T.g_sorted (by decide +kernel) (pa_cons (pv 0) pa_nil)) pa_nil)) (pg_tup rfl (pgs_cons (pg_name (i := 2) nd rfl (Or.inl rfl)) (pgs_cons (pg_name (i := 3) nd rfl (Or.inr rfl)) pgs_nil))) (pss_cons (ps_set (i := 4) nd rfl (Or.inl rfl) (pe_callB cr_sortedI (by rfl) T.g_sorted (by decide +kernel) (pa_cons (pv 0) pa_nil)))
      (pss_cons (ps_expr (pe_bm PySem.F.plainAttrs_list PySem.F.slot_list_pop PySem.F.type_list_pop mt_popAt (pv 4) (pa_cons (pv 2) pa_nil)))
      (pss_one (ps_if (PW.pt (pw_or (pt_cmpR op_eq (pv 2) pe_int (nomark _)) (pw_or1 (pt_cmpR op_ne (pe_ix ix_list (pe_callB cr_sortedI (by rfl) T.g_sorted (by decide +kernel) (pa_cons (pv 0) pa_nil)) (pe_op op_sub (pv 2) pe_int) (fun _ _ => rfl)) (pv 3) (nomark _))))) (pss_one (ps_set (i := 1) nd rfl (Or.inl rfl) (pe_op op_cat (pv 1) (pe_lc (own := [("row", 5)]) (g := gName 5) (tt := tYes) rfl nd (pi_list (pe_call ih hr (by rfl) T.m__law_lists T.F__law_lists.kp (b_ll T) .nil pass0 (pa_cons (pv 4) pa_nil))) (blkOk_by (own := [("row", 5)]) (N := ["keys", "found", "at", "key", "rest", "row"]) (sc := defScope s__law_lists) (by decide +kernel)) (fun _ _ _ _ _ => pg_name (i := 5) nd rfl (Or.inl rfl)) (fun _ _ _ _ _ => pts_nil) (fun _ _ _ _ _ => (pe_op (r := rCatA K) op_catA (pe_tup (pa_cons (pv 3) pa_nil)) (pv 5))))))) pss_nil)))))
      (pss_one (ps_ret (pv 1)))))), ?_⟩
      refine ⟨_, rfl, Nat.zero_le _, fun l0 nl0 => ?_⟩
      have s0 : Same H (upd H l0 (.lst [])) := Same.up nl0
      refine ⟨.list (ks.map .int), .list [], .lst (SqL.of (s0 _ _ hk)) (ints_dp _ _ _), .lst (SqL.of upd_same) .nil, shaped_ints _, rfl, _, rfl, ?_⟩
      rw [emp_eqv]
      by_cases hn : ks = []
      · rw [decide_eq_true hn]
        refine iteT ?_
        refine ⟨Nat.zero_le _, fun e ne => ⟨by show 1 ≤ sizeLine; decide, fun D nD => ?_⟩⟩
        have se := Same.up (o := .tup []) ne
        subst hn
        exact q _ D [.ref e] (s0.trans (se.trans (Same.up nD))) (s0.free (se.free nD)) upd_same (.cons ⟨e, rfl, (Same.up nD) _ _ upd_same⟩ .nil)
      · rw [decide_eq_false hn]
        refine iteF ?_
        refine ⟨Nat.zero_le _, fun D nD => ?_⟩
        have s1 : Same H (upd (upd H l0 (.lst [])) D (.lst [])) := s0.trans (Same.up nD)
        have hnD : H D = none := s0.free nD
        have eD : upd (upd H l0 (.lst [])) D (.lst []) D = some (.lst []) := upd_same
        revert s1 eD
        generalize upd (upd H l0 (.lst [])) D (.lst []) = H1
        intro s1 eD
        refine ⟨fun σ' H' => ∃ (x2 x3 x4 : Option V) (q1 : Addr) (xs : List V), σ' = [some (.ref k), some (.ref q1), x2, x3, x4, none] ∧ Same H H' ∧ H q1 = none ∧ H' q1 = some (.lst xs) ∧ RowsAt H' xs (permsL ks.length ks), ?_, ?_⟩
        · refine ⟨_, rfl, k, ks, rfl, SqL.of (s1 _ _ hk), fun s a perm srt na => ?_⟩
          have sa : Same H1 (upd H1 a (.lst (s.map V.int))) := Same.up na
          have hsl : s.length = ks.length := perm.length_eq
          refine ⟨a, _, rfl, SqL.of upd_same, ?_⟩
          refine for_it (walk_enum (xs := s.map V.int)) (fun i σ' H' => ∃ (x2 x3 x4 : Option V) (q1 : Addr) (xs : List V), σ' = [some (.ref k), some (.ref q1), x2, x3, x4, none] ∧ Same (upd H1 a (.lst (s.map V.int))) H' ∧ H q1 = none ∧ H' q1 = some (.lst xs) ∧ RowsAt H' xs (ordL s i))
            ⟨none, none, none, D, [], rfl, Same.refl _, hnD, sa _ _ eD, .nil⟩ (fun i σ' H' _ ⟨_, _, _, _, _, _, s, _⟩ => SqL.of (s _ _ upd_same)) ?_ ?_
          · rintro i v σ' H2 H3 hi ⟨x2, x3, x4, q1, xs, rfl, s2, nq1, eq1, r1⟩ ⟨T', x, y, rfl, nT, rfl, ex, ey⟩
            obtain ⟨hi', rfl⟩ := ints_at ey
            cases ex
            refine ⟨_, _, rfl, SqT.of upd_same, rfl, ?_⟩
            have s3 : Same H2 (upd H2 T' (.tup [.int (i : Nat), .int s[i]])) := Same.up nT
            have hkH : H2 k = some (.lst (ks.map V.int)) := s2 _ _ (sa _ _ (s1 _ _ hk))
            have e1 := s3 _ _ eq1
            have r3 := r1.same s3
            have hk3 := s3 _ _ hkH
            have s23 := s2.trans s3
            refine ⟨_, _, rfl, _, _, rfl, rfl, ?_⟩
            revert e1 r3 hk3 s23 
            generalize upd H2 T' (.tup [.int (i : Nat), .int s[i]]) = H3
            intro e1 r3 hk3 s23
            refine ⟨_, rfl, k, ks, rfl, SqL.of hk3, fun s' r perm' srt' nr => ?_⟩
            obtain rfl : s' = s := sorted_one (perm'.trans perm.symm) srt' srt
            refine ⟨_, rfl, .inl ⟨rfl, _, SqL.of upd_same⟩, _, rfl, r, _, _, i, V.int s'[i], rfl, rfl, upd_same, by omega, by omega, ?_, ?_, ?_⟩
            · unfold seqIndex?
              rw [List.length_map]
              simp
              omega
            · rw [List.getElem?_map, List.getElem?_eq_getElem hi']
              rfl
            have er : upd (upd H3 r (.lst (s'.map V.int))) r (.lst ((s'.map V.int).eraseIdx i)) r = some (.lst ((s'.eraseIdx i).map V.int)) := by
              rw [upd_same, era_map]
            have s5 : Same H3 (upd (upd H3 r (.lst (s'.map V.int))) r (.lst ((s'.map V.int).eraseIdx i))) := fun b o e => by
              rw [upd_ne (ne_of_none e nr), upd_ne (ne_of_none e nr)]
              exact e
            revert er s5
            generalize upd (upd H3 r (.lst (s'.map V.int))) r (.lst ((s'.map V.int).eraseIdx i)) = H5
            intro er s5
            have hel : (s'.eraseIdx i).length = s'.length - 1 := by
              rw [List.length_eraseIdx, if_pos hi']
            have hol := ord_len s' (by omega) i (by omega)
            have go : ∀ {H6 : Hp} {Q : VK}, Same H5 H6 → firstB s' i = true → (∀ (H' : Hp) (q2 : Addr) (ys : List V), Same H6 H' → H6 q2 = none → H' q2 = some (.lst ys) → RowsAt H' ys (ordL s' (i + 1)) → Q (.ref q2) H') →
                tOp rCat (tVar 1) (tLc (iList K (tCall (spLL n) [] E0 (tCons (tVar 4) tNil))) (gName 5) tYes (tOp (rCatA K) (tTup (tCons (tVar 3) tNil)) (tVar 5)) [5]) [some (.ref k), some (.ref q1), some (.int (i : Nat)), some (.int s'[i]), some (.ref r), none] H6 Q := fun {H6 Q} s6 hf q6 => by
              refine lc_go (s6 _ _ (s5 _ _ e1)) (RowsAt.same (r3.same s5) s6) (s6 _ _ er) (by rw [hel]; omega) (by rw [hel]; omega) (by omega) fun H' q2 ys sx nx ex rx => q6 H' q2 ys sx nx ex ?_
              rw [ord_succ, if_pos hf, ← hel, getD_at hi']
              exact rx
            have s25 := s23.trans s5
            by_cases h0 : i = 0
            · refine ⟨_, rfl, rfl, _, rfl, ?_⟩
              rw [show decide (V.int (i : Nat) = V.int 0) = true from decide_eq_true (by rw [h0]; rfl)]
              refine iteT (iteT (go (Same.refl _) (by unfold firstB; rw [decide_eq_true h0, Bool.true_or]) fun H' q2 ys sx nx ex rx => ?_))
              exact ⟨_, _, _, q2, ys, rfl, s25.trans sx, (s1.trans (sa.trans s25)).free nx, ex, rx⟩
            · refine ⟨_, rfl, rfl, _, rfl, ?_⟩
              rw [show decide (V.int (i : Nat) = V.int 0) = false from decide_eq_false (fun z => h0 (by injection z with z; omega))]
              refine iteF ?_
              refine ⟨_, rfl, k, ks, rfl, SqL.of (s5 _ _ hk3), fun s2' r2 perm2 srt2 nr2 => ?_⟩
              obtain rfl : s2' = s' := sorted_one (perm2.trans perm.symm) srt2 srt
              have s6 : Same H5 (upd H5 r2 (.lst (s2'.map V.int))) := Same.up nr2
              have ev : atI (s2'.map V.int) ((i : Int) - 1) = some (V.int (s2'.getD (i - 1) 0)) := by
                rw [show (i : Int) - 1 = ((i - 1 : Nat) : Int) by omega]
                exact atI_nat (by rw [List.getElem?_map, List.getElem?_eq_getElem (show i - 1 < s2'.length by omega), getD_at (by omega)]; rfl)
              refine ⟨_, rfl, _, _, rfl, rfl, r2, _, _, _, rfl, rfl, SqL.of upd_same, ev, _, rfl, rfl, _, rfl, ?_⟩
              by_cases hf : s2'.getD (i - 1) 0 = s2'[i]
              · rw [show (!decide (V.int (s2'.getD (i - 1) 0) = V.int s2'[i])) = false by rw [hf, decide_eq_true rfl]; rfl]
                refine iteF ⟨_, _, _, q1, xs, rfl, s25.trans s6, nq1, s6 _ _ (s5 _ _ e1), ?_⟩
                have nf : ¬ firstB s2' i = true := by
                  unfold firstB
                  rw [decide_eq_false h0, Bool.false_or, decide_eq_true_eq, getD_at hi', hf]
                  exact fun z => z rfl
                rw [ord_succ, if_neg nf, List.append_nil]
                exact RowsAt.same (r3.same s5) s6
              · rw [show (!decide (V.int (s2'.getD (i - 1) 0) = V.int s2'[i])) = true by rw [decide_eq_false (fun z => hf (by injection z))]; rfl]
                have hy : firstB s2' i = true := by
                  unfold firstB
                  rw [getD_at hi', decide_eq_true hf, Bool.or_true]
                refine iteT (go s6 hy fun H' q2 ys sx nx ex rx => ?_)
                exact ⟨_, _, _, q2, ys, rfl, (s25.trans s6).trans sx, (s1.trans (sa.trans (s25.trans s6))).free nx, ex, rx⟩
          · rintro σ' H2 ⟨x2, x3, x4, q1, xs, rfl, s2, nq1, eq1, r1⟩
            have hs0 : s ≠ [] := fun z => hn (List.length_eq_zero_iff.mp (by rw [← hsl, z]; rfl))
            rw [List.length_map, ord_end srt hs0, hsl, permsL_perm _ perm] at r1
            exact ⟨x2, x3, x4, q1, xs, rfl, s1.trans (sa.trans s2), nq1, eq1, r1⟩
        · rintro σ' H2 ⟨x2, x3, x4, q1, xs, rfl, s2, nq1, eq1, r1⟩
          exact ⟨_, rfl, q H2 q1 xs s2 nq1 eq1 r1⟩
theorem perms_mem : ∀ (n : Nat) (l r : List Int), r ∈ permsL n l → ∀ x ∈ r, x ∈ l
  | 0, _, r, h => fun x hx => by
    rw [List.mem_singleton.mp h] at hx
    cases hx
  | n + 1, l, r, h => fun y hy => by
    obtain ⟨x, hx, h2⟩ := List.mem_flatMap.mp h
    obtain ⟨t, h3, rfl⟩ := List.mem_map.mp h2
    rcases List.mem_cons.mp hy with e | e
    · rw [e]
      exact ascL_mem.mp hx
    · exact List.mem_of_mem_erase (perms_mem n _ t h3 y e)
def spLH : Sp := fun vs H Q _ => ∃ (k w : Nat) (ks : List Int), vs = [.ref k, .int w] ∧ (1 ≤ w ∧ w ≤ 4) ∧ H k = some (.lst (ks.map V.int)) ∧ ks.length ≤ 6 ∧ (∀ n ∈ ks, -1000000000 ≤ n ∧ n ≤ 1000000000) ∧
  ∀ (H' : Hp) (q : Addr) (xs : List V), Same H H' → H q = none → H' q = some (.lst xs) → RowsAt H' xs (allH ks w) → Q (.ref q) H'
theorem ok_lh (T : Tx K mg A) : FnOk P w K mg base CX0 10 A.f__law_heaps A.d__law_heaps ["keys", "wide"] spLH := by
  refine T.F__law_heaps.ok sc__law_heaps (fun vs H Q E h => ?_) (fun cdv B outer s H vs Q E hr h => ?_)
  · obtain ⟨k, w, ks, rfl, _⟩ := h
    rfl
  · obtain ⟨k, w, ks, rfl, hw, hk, h6, hb, q⟩ := h
    have nd := sc__law_heaps.nd
    refine ⟨_, (pss_one (ps_ret (pe_lc (own := [("row", 2)]) (g := gName 2) rfl nd (pi_list (pe_call (ok_ll T 7) (hr.mono (by decide)) (by rfl) T.m__law_lists T.F__law_lists.kp (b_ll T) .nil pass0 (pa_cons (pv 0) pa_nil))) (blkOk_by (own := [("row", 2)]) (N := ["keys", "wide", "row"]) (sc := defScope s__law_heaps) (by decide +kernel)) (fun _ _ _ _ _ => pg_name (i := 2) nd rfl (Or.inl rfl)) (fun _ _ _ _ _ => pts_one (pt_val (pe_call (ok_lis T) (hr.mono (by decide)) (by rfl) T.m__law_is_heap T.F__law_is_heap.kp (b_lis T) .nil pass0 (pa_cons (pv 2) (pa_cons (pv 1) pa_nil))))) (fun _ _ _ _ _ => pv 2)))), ?_⟩
    refine ⟨_, rfl, k, ks, rfl, hk, by omega, h6, fun H1 p ys s1 np ep rp => ?_⟩
    refine ⟨p, rfl, ⟨_, SqL.of ep⟩, fun D nD => ?_⟩
    have hyl : ys.length = (permsL ks.length ks).length := Paired.length rp
    have hp : (permsL ks.length ks).length ≤ 46656 := by
      refine Nat.le_trans (perms_len _ _ h6) ?_
      have : ∀ k, k < 7 → 6 ^ k ≤ 46656 := by decide
      exact this _ (by omega)
    refine lc_it (walk_list (xs := ys)) (fun j H' => AccR H1 D (((permsL ks.length ks).take j).filter fun r => lheap r w) H') (AccR.start nD) (fun j H' _ ac => SqL.of (ac.s _ _ ep)) ?_ ?_
    · rintro j y H2o H2 hj ac ⟨rfl, hy⟩
      obtain ⟨hj2, t, rfl, et⟩ := rp.get hy
      have et2 := ac.s _ _ et
      have hmem := List.getElem_mem hj2
      have hel := perms_el _ _ _ hmem
      refine ⟨rfl, _, rfl, _, rfl, t, w, _, rfl, hw, ⟨.inr et2, by omega, fun x hx => hb x (perms_mem _ _ _ hmem x hx)⟩, fun H3 s3 => ?_⟩
      refine ⟨_, rfl, ?_⟩
      rw [← List.take_append_getElem hj2, List.filter_append]
      have ac3 := ac.same s3
      have hln : (((permsL ks.length ks).take j).filter fun r => lheap r w).length ≤ 46656 := Nat.le_trans (List.length_filter_le _ _) (by rw [List.length_take]; omega)
      by_cases hh : lheap (permsL ks.length ks)[j] w = true
      · rw [hh]
        refine iteT ⟨_, rfl, ?_⟩
        rw [List.filter_cons_of_pos (p := fun r => lheap r w) hh, List.filter_nil]
        exact ac3.push ⟨t, rfl, s3 _ _ et2⟩ (by rw [sizeLine_eq]; omega)
      · rw [Bool.not_eq_true] at hh
        rw [hh]
        refine iteF ?_
        rw [List.filter_cons_of_neg (p := fun r => lheap r w) (by rw [hh]; exact Bool.false_ne_true), List.filter_nil, List.append_nil]
        exact ac3
    · intro H2 ac
      rw [hyl, List.take_length] at ac
      obtain ⟨zs, ez, rz⟩ := ac.a
      have e : (permsL ks.length ks).filter (fun r => lheap r w) = allH ks w := by
        rw [allH_perms]
        refine List.filter_congr fun r hr2 => ?_
        rw [heap_fault, lheap_fault r w hw (by rw [perms_el _ _ _ hr2]; omega)]
      rw [e] at rz
      exact q _ D zs (s1.trans ac.s) (s1.free nD) ez rz
end
end Tw

set_option Elab.async false
set_option linter.all false
set_option maxRecDepth 100000
set_option maxHeartbeats 2000000
namespace Tw
open PySem PySem.Spec PyProof.Rows L2
section
variable {P : Program} {w : World} {K : PySem.W.Frag} {mg : Str → Option Value} {base : Heap} {A : Ad}
open LamX (ExtN Tabs TabS)
theorem rgI_pl (n : Nat) : pl n = (rgI n).map V.int := by
  unfold pl rgI
  rw [List.map_map]
  rfl
/-- an order of the first numbers -/
def spLO (K : PySem.W.Frag) : Sp := fun vs H Q _ => ∃ (d a : Addr) (ns : List Int) (k n : Nat), vs = [.ref d, .int n] ∧ DrAt K H d a ns k ∧ k < 50000 ∧ n ≤ 12 ∧
  ∀ (H' : Hp) (q : Addr) (os : List Int) (k' : Nat), But d H H' → DrAt K H' d a ns k' → k' ≤ k + 12 → os.Perm (rgI n) → H q = none → H' q = some (.lst (os.map V.int)) → Q (.ref q) H'
theorem ok_lo (T : Tx K mg A) : FnOk P w K mg base CX0 4 A.f__law_order A.d__law_order ["draw", "many"] (spLO K) := by
  refine T.F__law_order.ok sc__law_order (fun vs H Q E h => ?_) (fun cdv B outer s H vs Q E hr h => ?_)
  · obtain ⟨d, a, ns, k, n, rfl, _⟩ := h
    rfl
  · obtain ⟨d, a, ns, k, n, rfl, dr, hk, hn, q⟩ := h
    have nd := sc__law_order.nd
    refine ⟨_, (pss_cons (ps_par (i := 2) (j := 3) rfl nd rfl rfl (by decide) rfl rfl (pa_cons (pe_listRg rfl (by rfl) T.g_list (prg_1 (by rfl) T.g_range (pv 1))) (pa_cons (pe_lst pa_nil) pa_nil)) rfl)
      (C8.pss_cut (ps_for PassesOwn.never rfl (pi_range1 rfl T.g_range (pa_cons (pv 1) pa_nil)) (pg_name (i := 4) nd rfl (Or.inl rfl)) (pss_one (ps_expr (pe_bm PySem.F.plainAttrs_list PySem.F.slot_list_append PySem.F.type_list_append mt_append (pv 3) (pa_cons (pe_bm PySem.F.plainAttrs_list PySem.F.slot_list_pop PySem.F.type_list_pop mt_popAt (pv 2) (pa_cons (pe_call (ok_take T) (hr.mono (by decide)) (by rfl) T.m__law_take T.F__law_take.kp (b_take T) .nil pass0 (pa_cons (pv 0) (pa_cons (pe_callB call_len_seq (by rfl) T.g_len PySem.boot_len (pa_cons (pv 2) pa_nil)) pa_nil))) pa_nil)) pa_nil)))))
      (pss_one (ps_ret (pv 3))))), ?_⟩
    refine ⟨_, rfl, _, rfl, RgOk.of_le (by omega) (by omega) (by omega) (by omega), fun L nL => ?_⟩
    refine ⟨Nat.zero_le _, fun O nO => ⟨_, _, rfl, ?_⟩⟩
    have sL : Same H (upd H L (.lst (rgV 0 (n : Nat)))) := Same.up nL
    have nO0 := sL.free nO
    have hLO : O ≠ L := fun z => by
      rw [z, upd_same] at nO
      cases nO
    have hLd : L ≠ d := fun z => by rw [z, dr.l] at nL; cases nL
    have hOd : O ≠ d := fun z => by rw [z, dr.l] at nO0; cases nO0
    have s0 : Same H (upd (upd H L (.lst (rgV 0 (n : Nat)))) O (.lst [])) := sL.trans (Same.up nO)
    refine ⟨fun σ' H' => (∃ x4 : Option V, σ' = [some (.ref d), some (.int n), some (.ref L), some (.ref O), x4]) ∧ ∃ os : List Int, H' O = some (.lst (os.map V.int)) ∧ os.Perm (rgI n) ∧ But d H H' ∧ DrAt K H' d a ns (k + n), ?_, ?_⟩
    · refine ⟨_, rfl, _, rfl, by omega, by omega, ?_⟩
      rw [Int.toNat_natCast]
      refine for_it (walk_range (lo := 0) (n := n)) (fun i σ' H' => (∃ x4 : Option V, σ' = [some (.ref d), some (.int n), some (.ref L), some (.ref O), x4]) ∧ ∃ ls os : List Int, H' L = some (.lst (ls.map V.int)) ∧ H' O = some (.lst (os.map V.int)) ∧ (os ++ ls).Perm (rgI n) ∧ os.length = i ∧ But d H H' ∧ DrAt K H' d a ns (k + i))
        ⟨⟨none, rfl⟩, rgI n, [], ?_, upd_same, List.Perm.refl _, rfl, But.of s0, ⟨s0 _ _ dr.l, dr.n, s0.seq dr.s, dr.h⟩⟩ (fun i σ' H' _ _ => trivial) ?_ ?_
      · rw [upd_ne hLO.symm, upd_same, rg_pl, rgI_pl]
      · rintro i x σ' H2 H3 hi ⟨⟨x4, rfl⟩, ls, os, eL, eO, perm, hoi, b2, dr2⟩ ⟨rfl, ex⟩
        have hln := perm.length_eq
        rw [List.length_append, rgI_len] at hln
        refine ⟨_, rfl, .inl ⟨rfl, _, SqL.of eO⟩, _, rfl, .inl ⟨rfl, _, SqL.of eL⟩, _, rfl, _, rfl, L, _, rfl, .inl (SqL.of eL), ?_⟩
        refine ⟨d, a, ns, k + i, ls.length, by rw [List.length_map]; rfl, dr2, by omega, by omega, fun H4 r b4 dr4 hr4 => ?_⟩
        have eL4 := b4 _ _ hLd eL
        have eO4 := b4 _ _ hOd eO
        refine ⟨L, _, _, r, V.int ls[r], rfl, rfl, eL4, by omega, by omega, ?_, ?_, ?_⟩
        · unfold seqIndex?
          rw [List.length_map]
          simp
          omega
        · rw [List.getElem?_map, List.getElem?_eq_getElem hr4]
          rfl
        have bb : ∀ zs zs2 : List V, But d H (upd (upd H4 L (.lst zs)) O (.lst zs2)) := fun zs zs2 b o hb e => by
          rw [upd_ne (ne_of_none e nO0), upd_ne (ne_of_none e nL)]
          exact b4 _ _ hb (b2 b o hb e)
        have eO5 : ∀ zs : List V, upd H4 L (.lst zs) O = some (.lst (os.map V.int)) := fun zs => by rw [upd_ne hLO]; exact eO4
        refine ⟨O, _, _, rfl, rfl, eO5 _, by rw [List.length_map, sizeLine_eq]; omega, ⟨_, rfl⟩, ls.eraseIdx r, os ++ [ls[r]], ?_, ?_, ?_, by rw [List.length_append, hoi]; rfl, bb _ _, ⟨?_, dr4.n, (bb _ _).seq dr.s dr.n, dr4.h⟩⟩
        · rw [upd_ne hLO.symm, upd_same, era_map]
        · rw [upd_same, List.map_append]
          rfl
        · rw [List.append_assoc]
          exact ((at_perm ls r hr4).append_left os).trans perm
        · rw [upd_ne hOd.symm, upd_ne hLd.symm]
          exact dr4.l
      · rintro σ' H2 ⟨⟨x4, rfl⟩, ls, os, eL, eO, perm, hoi, b2, dr2⟩
        have hln := perm.length_eq
        rw [List.length_append, rgI_len] at hln
        obtain rfl : ls = [] := List.length_eq_zero_iff.mp (by omega)
        rw [List.append_nil] at perm
        exact ⟨⟨x4, rfl⟩, os, eO, perm, b2, dr2⟩
    · rintro σ' H2 ⟨⟨x4, rfl⟩, os, eO, perm, b2, dr2⟩
      exact ⟨_, rfl, q H2 O os _ b2 dr2 (by omega) perm nO0 eO⟩
theorem q3 : ¬ (("stops" : Str) = "changes") := by decide +kernel
theorem q4 : ¬ (("stops" : Str) = "looks") := by decide +kernel
theorem q5 : ¬ (("changes" : Str) = "looks") := by decide +kernel
theorem rgI_mem {n : Nat} {x : Int} (h : x ∈ rgI n) : 0 ≤ x ∧ x < n := by
  unfold rgI at h
  obtain ⟨i, hi, rfl⟩ := List.mem_map.mp h
  have := List.mem_range.mp hi
  omega
end
end Tw

set_option Elab.async false
set_option linter.all false
set_option maxRecDepth 100000
set_option maxHeartbeats 2000000
namespace Tw
open PySem PySem.Spec PyProof.Rows L2
section
variable {P : Program} {w : World} {K : PySem.W.Frag} {mg : Str → Option Value} {base : Heap} {A : Ad}
open LamX (ExtN Tabs TabS)
/-! the law -/
theorem rep_flat (m : Nat) (k : Int) : (List.replicate m [V.int k]).flatten = (List.replicate m k).map V.int := by
  rw [List.map_replicate]
  induction m with
  | zero => rfl
  | succ m ih => rw [List.replicate_succ, List.flatten_cons, ih, List.replicate_succ]; rfl
theorem pow_at {p : Nat} (h : p < 10) : ([V.int 1, V.int 2, V.int 4, V.int 8, V.int 16, V.int 32, V.int 64, V.int 128, V.int 256, V.int 512] : List V)[p]? = some (V.int ((2 ^ p : Nat) : Int)) := by
  have : ∀ p, p < 10 → ([V.int 1, V.int 2, V.int 4, V.int 8, V.int 16, V.int 32, V.int 64, V.int 128, V.int 256, V.int 512] : List V)[p]? = some (V.int ((2 ^ p : Nat) : Int)) := by decide +kernel
  exact this p h
def spLaw (K : PySem.W.Frag) : Sp := fun vs H Q _ => ∃ (a : Addr) (ns : List Int), vs = [.ref a] ∧ SqL K H a (ns.map V.int) ∧ ns.length ≤ 63 ∧ ∀ H', Q (.bl true) H'
theorem ok_law (T : Tx K mg A) : FnOk P w K mg base CX0 12 A.f_law A.d_law ["script"] (spLaw K) := by
  obtain ⟨mo, kho⟩ := kb_hmo T
  obtain ⟨dho, rho, bho⟩ := b_hmo T
  obtain ⟨mm, km⟩ := kb_hm T
  refine T.F_law.ok sc_law (fun vs H Q E h => ?_) (fun cdv B outer s H vs Q E hr h => ?_)
  · obtain ⟨a, ns, rfl, _⟩ := h
    rfl
  · obtain ⟨a, ns, rfl, ha, hl, q⟩ := h
    have nd := sc_law.nd
    have hu := hr.units
    refine ⟨_, (pss_cons (ps_set (i := 1) nd rfl (Or.inl rfl) (pe_lst (pa_cons (pv 0) (pa_cons pe_int pa_nil))))
      (C8.pss_cut (ps_for PassesOwn.never rfl (pi_range1 rfl T.g_range (pa_cons pe_int pa_nil)) (pg_name (i := 2) nd rfl (Or.inl rfl)) (pss_cons (ps_set (i := 3) nd rfl (Or.inr rfl) (pe_call (ok_arm T) (hr.mono (by decide)) (by rfl) T.m__law_arms T.F__law_arms.kp (b_arm T) .nil pass0 (pa_cons (pv 1) pa_nil)))
      (C8.pss_cut (ps_set (i := 4) nd rfl (Or.inl rfl) (pe_call (ok_keys T) (hr.mono (by decide)) (by rfl) T.m__law_keys T.F__law_keys.kp (b_keys T) .nil pass0 (pa_cons (pv 1) (pa_cons pe_int (pa_cons (pe_call (ok_pick T) (hr.mono (by decide)) (by rfl) T.m__law_pick T.F__law_pick.kp (b_pick T) .nil pass0 (pa_cons (pv 1) (pa_cons (pe_lst (pa_cons pe_int (pa_cons pe_int (pa_cons pe_int (pa_cons pe_int pa_nil))))) pa_nil))) pa_nil)))))
      (C8.pss_cut (ps_if (pt_cmpR op_ne (pe_callN (ok_hmo T) (hr.mono (by decide)) (by rfl) T.m_how_many_of T.F_how_many_of.kp kho pass0 (pa_cons (pv 4) pa_nil) (pk_cons (pv 3) pk_nil)) (pe_callB call_len_seq (by rfl) T.g_len PySem.boot_len (pa_cons (pe_call (ok_lh T) (hr.mono (by decide)) (by rfl) T.m__law_heaps T.F__law_heaps.kp (b_lh T) .nil pass0 (pa_cons (pv 4) (pa_cons (pv 3) pa_nil))) pa_nil)) (nomark _)) (pss_one (ps_ret pe_bl)) pss_nil)
      (C8.pss_cut (ps_set (i := 5) nd rfl (Or.inl rfl) (pe_callTy (r := rTupF K) call_tupF (by rfl) T.g_tuple (by decide +kernel) (pa_cons (pe_revL (pe_lc (own := [("key", 14)]) (g := gName 14) (tt := tYes) rfl nd (pi_list (pv 4)) (blkOk_by (own := [("key", 14)]) (N := ["script", "draw", "turn", "wide", "keys", "doubled", "many", "same", "two", "rows", "powers", "lot", "ones", "loose", "key", "place"]) (sc := (defScope s_law)) (by decide +kernel)) (fun _ _ _ _ _ => pg_name (i := 14) nd rfl (Or.inl rfl)) (fun _ _ _ _ _ => pts_nil) (fun _ _ _ _ _ => (pe_op op_sub (pe_op op_mul pe_int (pv 14)) pe_int)))) pa_nil)))
      (C8.pss_cut (ps_if (pt_cmpR op_ne (pe_callN (ok_hmo T) (hr.mono (by decide)) (by rfl) T.m_how_many_of T.F_how_many_of.kp kho pass0 (pa_cons (pv 5) pa_nil) (pk_cons (pv 3) pk_nil)) (pe_callN (ok_hmo T) (hr.mono (by decide)) (by rfl) T.m_how_many_of T.F_how_many_of.kp kho pass0 (pa_cons (pv 4) pa_nil) (pk_cons (pv 3) pk_nil)) (nomark _)) (pss_one (ps_ret pe_bl)) pss_nil)
      (pss_one (ps_if (PW.pt (pw_and (pt_cmpR op_eq (pv 3) pe_int (nomark _)) (pw_and1 (pt_cmpR op_ne (pe_call (ok_hmo T) (hr.mono (by decide)) (by rfl) T.m_how_many_of T.F_how_many_of.kp bho rho pass0 (pa_cons (pv 5) pa_nil)) (pe_callN (ok_hmo T) (hr.mono (by decide)) (by rfl) T.m_how_many_of T.F_how_many_of.kp kho pass0 (pa_cons (pv 4) pa_nil) (pk_cons pe_int pk_nil)) (nomark _))))) (pss_one (ps_ret pe_bl)) pss_nil))))))))
      (C8.pss_cut (ps_set (i := 6) nd rfl (Or.inl rfl) (pe_call (ok_take T) (hr.mono (by decide)) (by rfl) T.m__law_take T.F__law_take.kp (b_take T) .nil pass0 (pa_cons (pv 1) (pa_cons pe_int pa_nil))))
      (C8.pss_cut (ps_if (pt_cmpR op_ne (pe_callN (ok_hmo T) (hr.mono (by decide)) (by rfl) T.m_how_many_of T.F_how_many_of.kp kho pass0 (pa_cons (pe_call (ok_lo T) (hr.mono (by decide)) (by rfl) T.m__law_order T.F__law_order.kp (b_lo T) .nil pass0 (pa_cons (pv 1) (pa_cons (pv 6) pa_nil))) pa_nil) (pk_cons (pv 3) pk_nil)) (pe_callN (ok_hm T) (hr.mono (by decide)) (by rfl) T.m_how_many T.F_how_many.kp km pass0 (pa_cons (pv 6) pa_nil) (pk_cons (pv 3) pk_nil)) (nomark _)) (pss_one (ps_ret pe_bl)) pss_nil)
      (C8.pss_cut (ps_set (i := 7) nd rfl (Or.inl rfl) (pe_op op_rep (pe_lst (pa_cons pe_int pa_nil)) (pe_call (ok_take T) (hr.mono (by decide)) (by rfl) T.m__law_take T.F__law_take.kp (b_take T) .nil pass0 (pa_cons (pv 1) (pa_cons pe_int pa_nil)))))
      (C8.pss_cut (ps_if (pt_cmpR op_ne (pe_callN (ok_hmo T) (hr.mono (by decide)) (by rfl) T.m_how_many_of T.F_how_many_of.kp kho pass0 (pa_cons (pv 7) pa_nil) (pk_cons (pv 3) pk_nil)) pe_int (nomark _)) (pss_one (ps_ret pe_bl)) pss_nil)
      (C8.pss_cut (ps_set (i := 8) nd rfl (Or.inl rfl) (pe_call (ok_take T) (hr.mono (by decide)) (by rfl) T.m__law_take T.F__law_take.kp (b_take T) .nil pass0 (pa_cons (pv 1) (pa_cons pe_int pa_nil))))
      (C8.pss_cut (ps_asg (pe_tup (pa_cons pe_int (pa_cons pe_int (pa_cons (pe_lst (pa_cons pe_int (pa_cons pe_int (pa_cons pe_int (pa_cons pe_int (pa_cons pe_int (pa_cons pe_int (pa_cons pe_int (pa_cons pe_int (pa_cons pe_int (pa_cons pe_int pa_nil))))))))))) pa_nil)))) (pg_tup rfl (pgs_cons (pg_name (i := 9) nd rfl (Or.inl rfl)) (pgs_cons (pg_name (i := 6) nd rfl (Or.inl rfl)) (pgs_cons (pg_name (i := 10) nd rfl (Or.inr rfl)) pgs_nil)))))
      (C8.pss_cut (ps_for PassesOwn.never rfl (pi_range1 rfl T.g_range (pa_cons pe_int pa_nil)) (pg_name (i := 11) nd rfl (Or.inr rfl)) (C8.pss_cut (ps_set (i := 12) nd rfl (Or.inr rfl) (pe_lc (own := [("place", 15)]) (g := gName 15) rfl nd (pi_range1 rfl T.g_range (pa_cons (pv 6) pa_nil)) (blkOk_by (own := [("place", 15)]) (N := ["script", "draw", "turn", "wide", "keys", "doubled", "many", "same", "two", "rows", "powers", "lot", "ones", "loose", "key", "place"]) (sc := (defScope s_law)) (by decide +kernel)) (fun _ _ _ _ _ => pg_name (i := 15) nd rfl (Or.inl rfl)) (fun _ _ _ _ _ => pts_one (pt_cmpR op_eq (pe_op op_mod (pe_op op_fdivN (pv 11) (pe_ix (r := rIxL K) ix_list (pv 10) (pv 15) (fun _ _ => rfl))) pe_int) pe_int (nomark _))) (fun _ _ _ _ _ => (pv 15))))
      (C8.pss_cut (ps_setLc (i := 13) (own := [("place", 15)]) (g := gName 15) rfl nd rfl rfl (sw_true rfl rfl rfl (by decide +kernel)) (pi_list (pv 12)) (blkOk_by (own := [("place", 15)]) (N := ["script", "draw", "turn", "wide", "keys", "doubled", "many", "same", "two", "rows", "powers", "lot", "ones", "loose", "key", "place"]) (sc := (defScope s_law)) (by decide +kernel)) (fun _ _ _ _ _ => pg_name (i := 15) nd rfl (Or.inl rfl)) (fun _ _ _ _ _ => pts_one (PW.pt (pw_and (pt_cmpR op_gt (pv 15) pe_int (nomark _)) (pw_and1 (pt_cmpR (r := L2.rIn K true) op_notIn_seq (pe_call (ok_lpar T) (hr.mono (by decide)) (by rfl) T.m__law_parent T.F__law_parent.kp (b_lpar T) .nil pass0 (pa_cons (pv 3) (pa_cons (pv 15) pa_nil))) (pv 12) (by rfl)))))) (fun _ _ _ _ _ => (pv 15)))
      (pss_one (ps_if (PW.pt (pw_and (pt_cmpR op_eq (pe_callB call_len_seq (by rfl) T.g_len PySem.boot_len (pa_cons (pv 12) pa_nil)) (pv 8) (nomark _)) (pw_and1 (pt_cmpR (op_eqD hu) (pv 13) (pe_lst pa_nil) (nomark _))))) (pss_one (ps_set (i := 9) nd rfl (Or.inl rfl) (pe_op op_add (pv 9) pe_int))) pss_nil)))))
      (pss_one (ps_ret (pe_cmpR op_eq (pe_callN (ok_hmo T) (hr.mono (by decide)) (by rfl) T.m_how_many_of T.F_how_many_of.kp kho pass0 (pa_cons (pe_op op_cat (pe_op op_rep (pe_lst (pa_cons pe_int pa_nil)) (pv 8)) (pe_op op_rep (pe_lst (pa_cons pe_int pa_nil)) (pe_op op_sub (pv 6) (pv 8)))) pa_nil) (pk_cons (pv 3) pk_nil)) (pv 9) (nomark _))))))))))))), ?_⟩
    refine ⟨_, rfl, by show 2 ≤ sizeLine; decide, fun d hd => ?_⟩
    have dr0 : DrAt K _ d a ns 0 := DrAt.start ha hl hd
    refine ⟨fun σ' H' => ∃ (w k : Nat) (x2 x4 x5 : Option V), σ' = [some (.ref a), some (.ref d), x2, some (.int w), x4, x5, none, none, none, none, none, none, none, none, none, none] ∧ DrAt K H' d a ns k ∧ k ≤ 60 ∧ (1 ≤ w ∧ w ≤ 4), ?_, ?_⟩
    · refine ⟨3, rfl, by decide, by decide, for_range (n := 3) (fun i σ H' => ∃ (k : Nat) (x2 x3 x4 x5 : Option V), σ = [some (.ref a), some (.ref d), x2, x3, x4, x5, none, none, none, none, none, none, none, none, none, none] ∧ DrAt K H' d a ns k ∧ k ≤ 20 * i ∧ (i = 0 ∨ ∃ w : Nat, x3 = some (.int w) ∧ (1 ≤ w ∧ w ≤ 4))) ⟨0, none, none, none, none, rfl, dr0, by omega, .inl rfl⟩ ?_ ?_⟩
      · rintro i σ H1 hi ⟨k, x2, x3, x4, x5, rfl, dr1, hk, _⟩
        generalize ex2 : some (V.int ((0 : Int) + (i : Nat))) = y2
        subst ex2
        refine ⟨_, rfl, d, a, ns, k, rfl, dr1, by omega, fun H2 w b2 dr2 hw => ?_⟩
        generalize ex2 : some (V.int ((0 : Int) + (i : Nat))) = y2
        -- the keys
        refine ⟨fun σ' H' => ∃ (q4 : Addr) (ks : List Int) (k' : Nat), σ' = [some (.ref a), some (.ref d), y2, some (.int w), some (.ref q4), x5, none, none, none, none, none, none, none, none, none, none] ∧ DrAt K H' d a ns k' ∧ k' ≤ k + 18 ∧ ks.length ≤ 6 ∧ (∀ z ∈ ks, -2 ≤ z ∧ z ≤ 1) ∧ H' q4 = some (.lst (ks.map V.int)) ∧ q4 ≠ d, ?_, ?_⟩
        · subst ex2
          refine ⟨_, rfl, _, rfl, by show 4 ≤ sizeLine; decide, fun b hb => ?_⟩
          have hbd : b ≠ d := fun z => by rw [z, dr2.l] at hb; cases hb
          have dr3' := dr2.same (Same.up (o := .lst [V.int 1, V.int 2, V.int 3, V.int 4]) hb)
          refine ⟨d, a, b, ns, [1, 2, 3, 4], k + 1, rfl, dr3', by omega, upd_same, hbd, by show 0 < 4; decide, fun H3 z b3 dr3 hz => ?_⟩
          have hz2 : 0 < z ∧ z ≤ 4 := by
            simp only [List.mem_cons, List.not_mem_nil, or_false] at hz
            omega
          obtain ⟨sp, rfl⟩ : ∃ sp : Nat, z = (sp : Int) := ⟨z.toNat, by omega⟩
          refine ⟨d, a, ns, k + 1 + 1, 6, sp, rfl, dr3, by omega, by decide, by omega, fun H4 q4 ks k' b4 dr4 hk' hkl hkb q40 hq4 => ?_⟩
          exact ⟨q4, ks, k', rfl, dr4, by omega, hkl, fun z hz => by have := hkb z hz; omega, hq4, fun z => by rw [z, dr3.l] at q40; cases q40⟩
        rintro σ' H3 ⟨q4, ks, k3, rfl, dr3, hk3, hkl, hkb, hq4, hqd⟩
        have hkb9 : ∀ z ∈ ks, -1000000000 ≤ z ∧ z ≤ 1000000000 := fun z hz => by have := hkb z hz; omega
        generalize eS : ([some (.ref a), some (.ref d), y2, some (.int w), some (.ref q4), x5, none, none, none, none, none, none, none, none, none, none] : L2.St) = S0
        refine ⟨fun σ' H' => σ' = S0 ∧ DrAt K H' d a ns k3 ∧ H' q4 = some (.lst (ks.map V.int)), ?_, ?_⟩
        · subst eS
          refine ⟨_, rfl, _, rfl, rfl, rfl, q4, w, ks, ascL ks, rfl, hw, .inl hq4, by omega, hkb9, asc_of ks, fun H4 s4 => ?_⟩
          refine ⟨_, rfl, _, rfl, q4, w, ks, rfl, hw, s4 _ _ hq4, hkl, hkb9, fun H5 q5 xs s5 _ e5 rows => ?_⟩
          refine ⟨q5, xs, rfl, .inl (SqL.of e5), rfl, _, rfl, ?_⟩
          rw [Paired.length rows, hm_heaps hw hkl hkb, decide_eq_true rfl]
          exact iteF ⟨rfl, dr3.same (s4.trans s5), (s4.trans s5) _ _ hq4⟩
        rintro σ' H4 ⟨eq, dr4, hq44⟩
        subst σ'
        -- doubled
        refine ⟨fun σ' H' => ∃ q5 : Addr, σ' = [some (.ref a), some (.ref d), y2, some (.int w), some (.ref q4), some (.ref q5), none, none, none, none, none, none, none, none, none, none] ∧ DrAt K H' d a ns k3 ∧ H' q4 = some (.lst (ks.map V.int)) ∧ TupF H' q5 ((ks.map fun k => 5 * k - 3).reverse.map V.int), ?_, ?_⟩
        · subst eS
          refine ⟨_, rfl, q4, rfl, ⟨_, SqL.of hq44⟩, fun D nD => ?_⟩
          refine lc_it (walk_list (xs := ks.map V.int)) (fun j H' => Acc H4 D (((ks.take j).map fun k => 5 * k - 3).map V.int) H') (by rw [List.take_zero]; exact Acc.start nD) (fun j H' _ ac => SqL.of (ac.s _ _ hq44)) ?_ ?_
          · rintro j y H5o H5 hj ac ⟨rfl, hy⟩
            obtain ⟨hj2, rfl⟩ := ints_at hy
            refine ⟨rfl, iteT (B := Acc H4 D (((ks.take (j + 1)).map fun k => 5 * k - 3).map V.int) H5) ?_⟩
            refine ⟨_, rfl, _, _, rfl, rfl, .inl ⟨by decide, by decide⟩, _, _, rfl, rfl, _, ac.a, small1000 (by rw [List.length_map, List.length_map, List.length_take]; omega), ?_⟩
            rw [← List.take_append_getElem hj2, List.map_append, List.map_append]
            exact ac.push
          · intro H5 ac
            rw [List.length_map, List.take_length] at ac
            refine ⟨D, _, rfl, SqL.of ac.a, fun c nc => ?_⟩
            have s6 := ac.s.trans (Same.up (o := .lst ((ks.map fun k => 5 * k - 3).map V.int).reverse) nc)
            have e6 := upd_same (H := H5) (a := c) (o := .lst ((ks.map fun k => 5 * k - 3).map V.int).reverse)
            generalize upd H5 c (.lst ((ks.map fun k => 5 * k - 3).map V.int).reverse) = H6 at s6 e6
            refine ⟨c, _, rfl, .inl ⟨SqL.of e6, fun l o nl hd => ?_⟩⟩
            have s7 := s6.trans (Same.up (o := .frz o (.tup ((ks.map fun k => 5 * k - 3).map V.int).reverse)) nl)
            exact ⟨l, rfl, dr4.same s7, s7 _ _ hq44, o, by rw [List.map_reverse]; exact upd_same, hd⟩
        clear eS
        rintro σ' H5 ⟨q5, rfl, dr5, hq45, hq5⟩
        obtain ⟨ds, eds⟩ : ∃ ds, ds = (ks.map fun k => 5 * k - 3).reverse := ⟨_, rfl⟩
        have hdl : ds.length = ks.length := by rw [eds, List.length_reverse, List.length_map]
        have hdb : ∀ z ∈ ds, -1000000000 ≤ z ∧ z ≤ 1000000000 := fun z hz => by
          rw [eds, List.mem_reverse] at hz
          obtain ⟨y, hy, rfl⟩ := List.mem_map.mp hz
          have := hkb y hy
          omega
        have hda := asc_dbl ks
        have hdg := grp_dbl ks
        rw [← eds] at hda hdg hq5
        generalize eS : ([some (.ref a), some (.ref d), y2, some (.int w), some (.ref q4), some (.ref q5), none, none, none, none, none, none, none, none, none, none] : L2.St) = S0
        refine ⟨fun σ' H' => σ' = S0 ∧ DrAt K H' d a ns k3 ∧ H' q4 = some (.lst (ks.map V.int)) ∧ TupF H' q5 (ds.map V.int), ?_, ?_⟩
        · subst eS
          refine ⟨_, rfl, _, rfl, rfl, rfl, q5, w, ds, _, rfl, hw, .inr hq5, by omega, hdb, hda, fun H6 s6 => ?_⟩
          refine ⟨_, rfl, _, rfl, rfl, rfl, q4, w, ks, ascL ks, rfl, hw, .inl (s6 _ _ hq45), by omega, hkb9, asc_of ks, fun H7 s7 => ?_⟩
          refine ⟨rfl, _, rfl, ?_⟩
          rw [hdl, hdg, decide_eq_true rfl]
          exact iteF ⟨rfl, dr5.same (s6.trans s7), (s6.trans s7) _ _ hq45, hq5.same (s6.trans s7)⟩
        rintro σ' H6 ⟨eq, dr6, hq46, hq56⟩
        subst σ'
        subst eS
        refine ⟨_, rfl, rfl, _, rfl, ?_⟩
        by_cases h2 : w = 2
        · rw [decide_eq_true (show V.int (w : Nat) = V.int 2 by rw [h2]; rfl)]
          refine iteT ⟨_, rfl, q5, 2, ds, _, rfl, by omega, .inr hq56, by omega, hdb, hda, fun H7 s7 => ?_⟩
          refine ⟨_, rfl, rfl, rfl, q4, 2, ks, ascL ks, rfl, by omega, .inl (s7 _ _ hq46), by omega, hkb9, asc_of ks, fun H8 s8 => ?_⟩
          refine ⟨rfl, _, rfl, ?_⟩
          rw [hdl, hdg, decide_eq_true rfl]
          exact iteF ⟨k3, _, _, _, _, rfl, dr6.same (s7.trans s8), by omega, .inr ⟨w, rfl, hw⟩⟩
        · rw [decide_eq_false (show ¬ V.int (w : Nat) = V.int 2 by intro z; injection z with z; omega)]
          exact iteF (iteF ⟨k3, _, _, _, _, rfl, dr6, by omega, .inr ⟨w, rfl, hw⟩⟩)
      · rintro σ H1 ⟨k, x2, x3, x4, x5, rfl, dr1, hk, h⟩
        rcases h with h | ⟨w, rfl, hw⟩
        · cases h
        · exact ⟨w, k, _, _, _, rfl, dr1, by omega, hw⟩
    rintro σ' H1 ⟨w, k, x2, x4, x5, rfl, dr1, hk, hw⟩
    -- different keys
    refine ⟨fun σ' H' => ∃ m : Nat, σ' = [some (.ref a), some (.ref d), x2, some (.int w), x4, x5, some (.int m), none, none, none, none, none, none, none, none, none] ∧ DrAt K H' d a ns (k + 1) ∧ m ≤ 10, ?_, ?_⟩
    · refine ⟨_, rfl, d, a, ns, k, 11, rfl, dr1, by omega, by decide, fun H2 m b2 dr2 hm => ?_⟩
      exact ⟨m, rfl, dr2, by omega⟩
    rintro σ' H2 ⟨m, rfl, dr2, hm⟩
    refine ⟨fun σ' H' => ∃ k', σ' = [some (.ref a), some (.ref d), x2, some (.int w), x4, x5, some (.int m), none, none, none, none, none, none, none, none, none] ∧ DrAt K H' d a ns k' ∧ k' ≤ 80, ?_, ?_⟩
    · refine ⟨_, rfl, _, rfl, d, a, ns, k + 1, m, rfl, dr2, by omega, by omega, fun H3 q3 os k' b3 dr3 hk' perm _ e3 => ?_⟩
      have hol : os.length = m := perm.length_eq.trans (rgI_len m)
      refine ⟨_, rfl, rfl, rfl, q3, w, os, rgI m, rfl, hw, .inl e3, by omega, fun z hz => by have := rgI_mem (perm.mem_iff.mp hz); omega, asc_ord perm, fun H4 s4 => ?_⟩
      refine ⟨_, rfl, _, rfl, rfl, rfl, m, w, rfl, by omega, hw, fun H5 s5 => ?_⟩
      refine ⟨rfl, _, rfl, ?_⟩
      rw [hol, grp_ord perm, F3 w (by omega) m (by omega) hw.1, decide_eq_true rfl]
      exact iteF ⟨k', rfl, dr3.same (s4.trans s5), by omega⟩
    rintro σ' H3 ⟨k3, rfl, dr3, hk3⟩
    clear dr1 dr2
    -- the same keys
    refine ⟨fun σ' H' => ∃ (q7 : Addr) (t : Nat), σ' = [some (.ref a), some (.ref d), x2, some (.int w), x4, x5, some (.int m), some (.ref q7), none, none, none, none, none, none, none, none] ∧ DrAt K H' d a ns (k3 + 1) ∧ t ≤ 10 ∧ H' q7 = some (.lst ((List.replicate t 7).map V.int)) ∧ q7 ≠ d, ?_, ?_⟩
    · refine ⟨by show 1 ≤ sizeLine; decide, fun l nl => ?_⟩
      have s4 := Same.up (o := .lst [V.int 7]) nl
      have e4 := upd_same (H := H3) (a := l) (o := .lst [V.int 7])
      have hld : l ≠ d := fun z => by rw [z, dr3.l] at nl; cases nl
      have dr4 := dr3.same s4
      generalize upd H3 l (.lst [V.int 7]) = H4 at s4 e4 dr4
      refine ⟨_, rfl, d, a, ns, k3, 11, rfl, dr4, by omega, by decide, fun H5 t b5 dr5 ht => ?_⟩
      refine ⟨l, t, _, rfl, rfl, b5 _ _ hld e4, by omega, by omega, by rw [Int.toNat_natCast, List.length_singleton, sizeLine_eq]; omega, fun p np => ?_⟩
      rw [Int.toNat_natCast, rep_flat]
      exact ⟨p, t, rfl, dr5.same (Same.up np), by omega, upd_same, fun z => by rw [z, dr5.l] at np; cases np⟩
    rintro σ' H4 ⟨q7, t, rfl, dr4, ht, e7, _⟩
    refine ⟨fun σ' H' => σ' = [some (.ref a), some (.ref d), x2, some (.int w), x4, x5, some (.int m), some (.ref q7), none, none, none, none, none, none, none, none] ∧ DrAt K H' d a ns (k3 + 1), ?_, ?_⟩
    · refine ⟨_, rfl, _, rfl, rfl, rfl, q7, w, _, usS t 7, rfl, hw, .inl e7, by rw [List.length_replicate]; omega, fun z hz => by have := List.eq_of_mem_replicate hz; omega, asc_same t 7, fun H5 s5 => ?_⟩
      refine ⟨rfl, _, rfl, ?_⟩
      rw [List.length_replicate, grp_same, F4 w (by omega) t (by omega) hw.1]
      exact iteF ⟨rfl, dr4.same s5⟩
    rintro σ' H5 ⟨rfl, dr5⟩
    clear dr3 dr4 e7
    refine ⟨fun σ' H' => ∃ t : Nat, σ' = [some (.ref a), some (.ref d), x2, some (.int w), x4, x5, some (.int m), some (.ref q7), some (.int t), none, none, none, none, none, none, none] ∧ t ≤ 10, ?_, ?_⟩
    · refine ⟨_, rfl, d, a, ns, k3 + 1, 11, rfl, dr5, by omega, by decide, fun H6 t b6 dr6 ht => ?_⟩
      exact ⟨t, rfl, by omega⟩
    rintro σ' H6 ⟨t, rfl, ht⟩
    clear dr5
    -- two keys
    refine ⟨fun σ' H' => ∃ pw : Addr, σ' = [some (.ref a), some (.ref d), x2, some (.int w), x4, x5, some (.int 10), some (.ref q7), some (.int t), some (.int 0), some (.ref pw), none, none, none, none, none] ∧ H' pw = some (.lst [V.int 1, V.int 2, V.int 4, V.int 8, V.int 16, V.int 32, V.int 64, V.int 128, V.int 256, V.int 512]), ?_, ?_⟩
    · refine ⟨by show 10 ≤ sizeLine; decide, fun pw npw => ⟨by show 3 ≤ sizeLine; decide, fun u nu => ?_⟩⟩
      refine ⟨u, _, rfl, SqT.of upd_same, rfl, _, _, rfl, _, _, rfl, _, _, rfl, rfl, ?_⟩
      exact ⟨pw, rfl, (Same.up nu) _ _ upd_same⟩
    rintro σ' H7 ⟨pw, rfl, epw⟩
    refine ⟨fun σ' H' => ∃ (x11 x12 x13 : Option V), σ' = [some (.ref a), some (.ref d), x2, some (.int w), x4, x5, some (.int 10), some (.ref q7), some (.int t), some (.int (rowsN w t 1024 : Nat)), some (.ref pw), x11, x12, x13, none, none] ∧ H' pw = some (.lst [V.int 1, V.int 2, V.int 4, V.int 8, V.int 16, V.int 32, V.int 64, V.int 128, V.int 256, V.int 512]), ?_, ?_⟩
    · refine ⟨1024, rfl, by decide, by decide, for_range (n := 1024) (fun i σ H' => ∃ (x11 x12 x13 : Option V), σ = [some (.ref a), some (.ref d), x2, some (.int w), x4, x5, some (.int 10), some (.ref q7), some (.int t), some (.int (rowsN w t i : Nat)), some (.ref pw), x11, x12, x13, none, none] ∧ H' pw = some (.lst [V.int 1, V.int 2, V.int 4, V.int 8, V.int 16, V.int 32, V.int 64, V.int 128, V.int 256, V.int 512])) ⟨_, _, _, rfl, epw⟩ ?_ ?_⟩
      · rintro i σ H8 hi ⟨x11, x12, x13, rfl, e8⟩
        rw [show (0 : Int) + (i : Nat) = ((i : Nat) : Int) by omega]
        -- the ones
        refine ⟨fun σ' H' => ∃ o : Addr, σ' = [some (.ref a), some (.ref d), x2, some (.int w), x4, x5, some (.int 10), some (.ref q7), some (.int t), some (.int (rowsN w t i : Nat)), some (.ref pw), some (.int (i : Nat)), some (.ref o), x13, none, none] ∧ Same H8 H' ∧ H' o = some (.lst (vi (onesL i))), ?_, ?_⟩
        · refine ⟨_, rfl, 10, rfl, by decide, by decide, fun D nD => ?_⟩
          refine lc_it (walk_range (lo := 0) (n := 10)) (fun j H' => Acc H8 D (vi ((List.range j).filter fun p => decide (i / 2 ^ p % 2 = 1))) H') (Acc.start nD) (fun j H' _ _ => trivial) ?_ ?_
          · rintro j y H9o H9 hj ac ⟨rfl, ey⟩
            have ey : y = V.int (0 + (j : Nat)) := ey
            subst ey
            have e9 := ac.s _ _ e8
            have hp1 : 0 < 2 ^ j := Nat.pow_pos (by decide)
            have hp2 : 2 ^ j ≤ 512 := Nat.le_trans (Nat.pow_le_pow_right (by decide) (show j ≤ 9 by omega)) (by decide)
            rw [show (0 : Int) + (j : Nat) = ((j : Nat) : Int) by omega]
            refine ⟨rfl, _, rfl, _, rfl, _, rfl, pw, _, _, _, rfl, rfl, SqL.of e9, atI_nat (pow_at (by omega)), _, _, rfl, rfl, ⟨by omega, by omega⟩, _, _, rfl, rfl, (by show (0 : Int) < 2; decide), rfl, _, rfl, ?_⟩
            have ed : decide (V.int ((i : Int).fdiv ((2 ^ j : Nat) : Int) % 2) = V.int 1) = decide (i / 2 ^ j % 2 = 1) := by
              rw [← Int.ofNat_fdiv]
              by_cases e : i / 2 ^ j % 2 = 1
              · rw [decide_eq_true e, decide_eq_true]
                rw [show ((i / 2 ^ j : Nat) : Int) % 2 = 1 by omega]
              · rw [decide_eq_false e, decide_eq_false fun z => e (by injection z with z; omega)]
            refine ite_b (show _ = decide (i / 2 ^ j % 2 = 1) from ed) ?_
            rw [List.range_succ, List.filter_append]
            by_cases e : i / 2 ^ j % 2 = 1
            · rw [decide_eq_true e]
              refine iteT ⟨_, rfl, _, ac.a, small1000 (by rw [vi_len]; have := List.length_filter_le (fun p => decide (i / 2 ^ p % 2 = 1)) (List.range j); rw [List.length_range] at this; omega), ?_⟩
              rw [List.filter_cons, if_pos (decide_eq_true e), List.filter_nil, vi_app]
              exact ac.push
            · rw [decide_eq_false e]
              refine iteF ?_
              rw [List.filter_cons, if_neg (by rw [decide_eq_false e]; exact Bool.false_ne_true), List.filter_nil, List.append_nil]
              exact ac
          · intro H9 ac
            exact ⟨D, rfl, ac.s, ac.a⟩
        rintro σ' H9 ⟨o, rfl, s9, eo⟩
        -- what stands loose
        refine ⟨fun σ' H' => ∃ l : Addr, σ' = [some (.ref a), some (.ref d), x2, some (.int w), x4, x5, some (.int 10), some (.ref q7), some (.int t), some (.int (rowsN w t i : Nat)), some (.ref pw), some (.int (i : Nat)), some (.ref o), some (.ref l), none, none] ∧ Same H8 H' ∧ H' o = some (.lst (vi (onesL i))) ∧ H' l = some (.lst (vi (looseL w (onesL i)))), ?_, ?_⟩
        · refine ⟨_, rfl, o, rfl, ⟨_, SqL.of eo⟩, fun D nD => ?_⟩
          have hol : (onesL i).length ≤ 10 := Nat.le_trans (List.length_filter_le _ _) (by rw [List.length_range]; exact Nat.le_refl _)
          refine lc_it (walk_list (xs := vi (onesL i))) (fun j H' => Acc H9 D (vi (((onesL i).take j).filter fun p => decide (p > 0) && !decide ((p - 1) / w ∈ onesL i))) H') (by rw [List.take_zero]; exact Acc.start nD) (fun j H' _ ac => SqL.of (ac.s _ _ eo)) ?_ ?_
          · rintro j y G1o G1 hj ac ⟨rfl, hy⟩
            rw [vi_len] at hj
            unfold vi at hy
            rw [List.getElem?_map, List.getElem?_eq_getElem hj] at hy
            cases hy
            obtain ⟨p, ep⟩ : ∃ p, p = (onesL i)[j] := ⟨_, rfl⟩
            rw [← ep]
            have et : ∀ b : Bool, (decide (p > 0) && !decide ((p - 1) / w ∈ onesL i)) = b → ((onesL i).take (j + 1)).filter (fun p => decide (p > 0) && !decide ((p - 1) / w ∈ onesL i)) = ((onesL i).take j).filter (fun p => decide (p > 0) && !decide ((p - 1) / w ∈ onesL i)) ++ if b = true then [p] else [] := fun b hb => by
              rw [← List.take_append_getElem hj, List.filter_append, ← ep, List.filter_cons, hb, List.filter_nil]
            have hsz : (vi (((onesL i).take j).filter fun p => decide (p > 0) && !decide ((p - 1) / w ∈ onesL i))).length < 1000 := by
              rw [vi_len]
              have := List.length_filter_le (fun p => decide (p > 0) && !decide ((p - 1) / w ∈ onesL i)) ((onesL i).take j)
              rw [List.length_take] at this
              omega
            refine ⟨rfl, _, rfl, _, _, rfl, rfl, _, rfl, ?_⟩
            by_cases h0 : p = 0
            · rw [decide_eq_false (show ¬ ((p : Nat) : Int) > 0 by omega)]
              refine iteF (iteF ?_)
              rw [et false (by rw [decide_eq_false (by omega)]; rfl), if_neg Bool.false_ne_true, List.append_nil]
              exact ac
            · rw [decide_eq_true (show ((p : Nat) : Int) > 0 by omega)]
              refine iteT ⟨_, rfl, _, rfl, w, p, rfl, hw, by omega, _, rfl, o, _, rfl, .inl (SqL.of (ac.s _ _ eo)), rfl, vi_flat _, ?_⟩
              rw [if_pos rfl, mem_vi]
              refine ⟨_, rfl, ?_⟩
              by_cases hm : (p - 1) / w ∈ onesL i
              · rw [decide_eq_true hm]
                refine iteF ?_
                rw [et false (by rw [decide_eq_true hm, Bool.not_true, Bool.and_false]), if_neg Bool.false_ne_true, List.append_nil]
                exact ac
              · rw [decide_eq_false hm]
                refine iteT ⟨_, rfl, _, ac.a, small1000 (Nat.le_of_lt hsz), ?_⟩
                rw [et true (by rw [decide_eq_false hm, decide_eq_true (by omega)]; rfl), if_pos rfl, vi_app]
                exact ac.push
          · intro G1 ac
            rw [vi_len, List.take_length] at ac
            exact ⟨D, rfl, s9.trans ac.s, ac.s _ _ eo, ac.a⟩
        rintro σ' G1 ⟨l, rfl, s1, eo1, el1⟩
        have epw1 := s1 _ _ e8
        refine ⟨_, rfl, o, _, rfl, .inl (SqL.of eo1), _, rfl, rfl, _, rfl, ?_⟩
        rw [vi_len]
        have es : ∀ b, hitL w t i = b → rowsN w t (i + 1) = rowsN w t i + if b = true then 1 else 0 := fun b hb => by
          show rowsN w t i + (if hitL w t i = true then 1 else 0) = _
          rw [hb]
        by_cases h1 : (onesL i).length = t
        · rw [decide_eq_true (show V.int ((onesL i).length : Nat) = V.int (t : Nat) by rw [h1])]
          refine iteT ⟨_, rfl, Nat.zero_le _, fun e0 ne0 => ?_⟩
          have s2 := Same.up (o := .lst []) ne0
          have he0 : upd G1 e0 (.lst []) e0 = some (.lst (vi [])) := upd_same
          have el2 := s2 _ _ el1
          have epw2 := s2 _ _ epw1
          generalize upd G1 e0 (.lst []) = G2 at s2 he0 el2 epw2
          refine ⟨_, _, dp_lst _ el2, dp_lst _ he0, dl_shapedL _, dl_shapedL _, _, rfl, ?_⟩
          rw [dl_emp]
          by_cases h2 : looseL w (onesL i) = []
          · rw [decide_eq_true h2]
            refine iteT ⟨_, rfl, _, _, rfl, rfl, some (.int (i : Nat)), some (.ref o), some (.ref l), ?_, epw2⟩
            rw [es true (by unfold hitL; rw [decide_eq_true h1, decide_eq_true h2]; rfl)]
            rfl
          · rw [decide_eq_false h2]
            refine iteF ⟨some (.int (i : Nat)), some (.ref o), some (.ref l), ?_, epw2⟩
            rw [es false (by unfold hitL; rw [decide_eq_true h1, decide_eq_false h2]; rfl)]
            rfl
        · rw [decide_eq_false (show ¬ V.int ((onesL i).length : Nat) = V.int (t : Nat) from fun z => h1 (by injection z with z; omega))]
          refine iteF (iteF ⟨some (.int (i : Nat)), some (.ref o), some (.ref l), ?_, epw1⟩)
          rw [es false (by unfold hitL; rw [decide_eq_false h1]; rfl)]
          rfl
      · rintro σ H8 ⟨x11, x12, x13, rfl, e8⟩
        exact ⟨_, _, _, rfl, e8⟩
    rintro σ' H8 ⟨x11, x12, x13, rfl, e8⟩
    have elem : ∀ k : Int, ∀ G : Hp, ∀ l : Addr, G l = none → upd G l (.lst [V.int k]) l = some (.lst [V.int k]) := fun k G l _ => upd_same
    refine ⟨by show 1 ≤ sizeLine; decide, fun l1 nl1 => ?_⟩
    refine ⟨_, rfl, l1, t, _, rfl, rfl, upd_same, by omega, by omega, by rw [Int.toNat_natCast, List.length_singleton, sizeLine_eq]; omega, fun p1 np1 => ?_⟩
    rw [Int.toNat_natCast, rep_flat]
    have ep1 := upd_same (H := upd H8 l1 (.lst [V.int 0])) (a := p1) (o := .lst ((List.replicate t 0).map V.int))
    generalize upd (upd H8 l1 (.lst [V.int 0])) p1 (.lst ((List.replicate t 0).map V.int)) = G1 at ep1
    refine ⟨by show 1 ≤ sizeLine; decide, fun l2 nl2 => ?_⟩
    refine ⟨_, rfl, _, rfl, _, _, rfl, rfl, l2, ((10 - t : Nat) : Int), _, rfl, by show V.int (10 - (t : Int)) = _; congr 1; omega, upd_same, by omega, by omega, by rw [Int.toNat_natCast, List.length_singleton, sizeLine_eq]; omega, fun p2 np2 => ?_⟩
    rw [Int.toNat_natCast, rep_flat]
    have s2 := (Same.up (o := .lst [V.int 1]) nl2).trans (Same.up (o := .lst ((List.replicate (10 - t) 1).map V.int)) np2)
    have ep2 := upd_same (H := upd G1 l2 (.lst [V.int 1])) (a := p2) (o := .lst ((List.replicate (10 - t) 1).map V.int))
    have ep1' := s2 _ _ ep1
    generalize upd (upd G1 l2 (.lst [V.int 1])) p2 (.lst ((List.replicate (10 - t) 1).map V.int)) = G2 at ep2 ep1'
    refine ⟨p1, p2, _, _, rfl, rfl, ep1', ep2, by rw [List.length_map, List.length_map, List.length_replicate, List.length_replicate, sizeLine_eq]; omega, fun c nc => ?_⟩
    rw [← List.map_append]
    have htl : (twoK t).length = 10 := by unfold twoK; rw [List.length_append, List.length_replicate, List.length_replicate]; omega
    refine ⟨_, rfl, rfl, rfl, c, w, twoK t, twoU t, rfl, hw, .inl upd_same, by omega, fun z hz => ?_, asc_two t, fun G3 s3 => ?_⟩
    · unfold twoK at hz
      rcases List.mem_append.mp hz with hz | hz <;> (have := List.eq_of_mem_replicate hz; omega)
    · refine ⟨_, rfl, rfl, ?_⟩
      rw [htl, F5 w (by omega) t (by omega) hw.1, decide_eq_true rfl]
      exact q _

end
end Tw

set_option Elab.async false
set_option linter.all false
set_option maxRecDepth 100000
set_option maxHeartbeats 2000000
namespace Tw
open PySem PySem.Spec PyProof.Rows L2
theorem kit_no {K : PySem.W.Frag} {C : Addr} {t : String} (hc : PySem.W.isClsIn K C = true) (ht : PySem.W.typeIn K (.ref C) = some (.type "type")) (hs : PySem.W.subIn K (.type t) (.ref C) = some false) : PySem.W.kitOne K (.type t) (.ref C) = some false := by
  unfold PySem.W.kitOne PySem.W.kitCls
  have h1 : (PySem.W.clsIn K C).isSome = true := hc
  simp only [h1, ht, hs, beq_self_eq_true, Bool.and_self, if_true]
  rfl
theorem all_mk {l : PySem.W.OpenLaw} {w : World} {K : PySem.W.Frag} {h : Heap} {mg : Str → Option Value} (X : K.In h) (G : h.Ns mainGlobals mg) {fa C po D_t___init__ D_t_of D_how_many_of D_how_many f_is_integer f_is_integer_from f_is_key f_check_arms f_check_many f_check_place f_row_of f_check_few f_t___init__ f_t_of f_t___len__ f_t___iter__ f_t_parent f_t_way_to f_t_subtree f_t_size f_how_many_of f_closed_sizes f_chains_to f_how_many f__law_number f__law_take f__law_pick f__law_parent f__law_way f__law_is_heap f__law_arms f__law_keys f__law_order f__law_lists f__law_heaps f_law : Addr} {od_is_integer an_is_integer : Option Addr} {sl_is_integer : Array (Option Value)} {oc_is_integer kV_is_integer dc_is_integer pm_is_integer cd_is_integer ct_is_integer : Value} {od_is_integer_from an_is_integer_from : Option Addr} {sl_is_integer_from : Array (Option Value)} {oc_is_integer_from kV_is_integer_from dc_is_integer_from pm_is_integer_from cd_is_integer_from ct_is_integer_from : Value} {od_is_key an_is_key : Option Addr} {sl_is_key : Array (Option Value)} {oc_is_key kV_is_key dc_is_key pm_is_key cd_is_key ct_is_key : Value} {od_check_arms an_check_arms : Option Addr} {sl_check_arms : Array (Option Value)} {oc_check_arms kV_check_arms dc_check_arms pm_check_arms cd_check_arms ct_check_arms : Value} {od_check_many an_check_many : Option Addr} {sl_check_many : Array (Option Value)} {oc_check_many kV_check_many dc_check_many pm_check_many cd_check_many ct_check_many : Value} {od_check_place an_check_place : Option Addr} {sl_check_place : Array (Option Value)} {oc_check_place kV_check_place dc_check_place pm_check_place cd_check_place ct_check_place : Value} {od_row_of an_row_of : Option Addr} {sl_row_of : Array (Option Value)} {oc_row_of kV_row_of dc_row_of pm_row_of cd_row_of ct_row_of : Value} {od_check_few an_check_few : Option Addr} {sl_check_few : Array (Option Value)} {oc_check_few kV_check_few dc_check_few pm_check_few cd_check_few ct_check_few : Value} {od_t___init__ an_t___init__ : Option Addr} {sl_t___init__ : Array (Option Value)} {oc_t___init__  dc_t___init__ pm_t___init__ cd_t___init__ ct_t___init__ : Value} {od_t_of an_t_of : Option Addr} {sl_t_of : Array (Option Value)} {oc_t_of  dc_t_of pm_t_of cd_t_of ct_t_of : Value} {od_t___len__ an_t___len__ : Option Addr} {sl_t___len__ : Array (Option Value)} {oc_t___len__ kV_t___len__ dc_t___len__ pm_t___len__ cd_t___len__ ct_t___len__ : Value} {od_t___iter__ an_t___iter__ : Option Addr} {sl_t___iter__ : Array (Option Value)} {oc_t___iter__ kV_t___iter__ dc_t___iter__ pm_t___iter__ cd_t___iter__ ct_t___iter__ : Value} {od_t_parent an_t_parent : Option Addr} {sl_t_parent : Array (Option Value)} {oc_t_parent kV_t_parent dc_t_parent pm_t_parent cd_t_parent ct_t_parent : Value} {od_t_way_to an_t_way_to : Option Addr} {sl_t_way_to : Array (Option Value)} {oc_t_way_to kV_t_way_to dc_t_way_to pm_t_way_to cd_t_way_to ct_t_way_to : Value} {od_t_subtree an_t_subtree : Option Addr} {sl_t_subtree : Array (Option Value)} {oc_t_subtree kV_t_subtree dc_t_subtree pm_t_subtree cd_t_subtree ct_t_subtree : Value} {od_t_size an_t_size : Option Addr} {sl_t_size : Array (Option Value)} {oc_t_size kV_t_size dc_t_size pm_t_size cd_t_size ct_t_size : Value} {od_how_many_of an_how_many_of : Option Addr} {sl_how_many_of : Array (Option Value)} {oc_how_many_of  dc_how_many_of pm_how_many_of cd_how_many_of ct_how_many_of : Value} {od_closed_sizes an_closed_sizes : Option Addr} {sl_closed_sizes : Array (Option Value)} {oc_closed_sizes kV_closed_sizes dc_closed_sizes pm_closed_sizes cd_closed_sizes ct_closed_sizes : Value} {od_chains_to an_chains_to : Option Addr} {sl_chains_to : Array (Option Value)} {oc_chains_to kV_chains_to dc_chains_to pm_chains_to cd_chains_to ct_chains_to : Value} {od_how_many an_how_many : Option Addr} {sl_how_many : Array (Option Value)} {oc_how_many  dc_how_many pm_how_many cd_how_many ct_how_many : Value} {od__law_number an__law_number : Option Addr} {sl__law_number : Array (Option Value)} {oc__law_number kV__law_number dc__law_number pm__law_number cd__law_number ct__law_number : Value} {od__law_take an__law_take : Option Addr} {sl__law_take : Array (Option Value)} {oc__law_take kV__law_take dc__law_take pm__law_take cd__law_take ct__law_take : Value} {od__law_pick an__law_pick : Option Addr} {sl__law_pick : Array (Option Value)} {oc__law_pick kV__law_pick dc__law_pick pm__law_pick cd__law_pick ct__law_pick : Value} {od__law_parent an__law_parent : Option Addr} {sl__law_parent : Array (Option Value)} {oc__law_parent kV__law_parent dc__law_parent pm__law_parent cd__law_parent ct__law_parent : Value} {od__law_way an__law_way : Option Addr} {sl__law_way : Array (Option Value)} {oc__law_way kV__law_way dc__law_way pm__law_way cd__law_way ct__law_way : Value} {od__law_is_heap an__law_is_heap : Option Addr} {sl__law_is_heap : Array (Option Value)} {oc__law_is_heap kV__law_is_heap dc__law_is_heap pm__law_is_heap cd__law_is_heap ct__law_is_heap : Value} {od__law_arms an__law_arms : Option Addr} {sl__law_arms : Array (Option Value)} {oc__law_arms kV__law_arms dc__law_arms pm__law_arms cd__law_arms ct__law_arms : Value} {od__law_keys an__law_keys : Option Addr} {sl__law_keys : Array (Option Value)} {oc__law_keys kV__law_keys dc__law_keys pm__law_keys cd__law_keys ct__law_keys : Value} {od__law_order an__law_order : Option Addr} {sl__law_order : Array (Option Value)} {oc__law_order kV__law_order dc__law_order pm__law_order cd__law_order ct__law_order : Value} {od__law_lists an__law_lists : Option Addr} {sl__law_lists : Array (Option Value)} {oc__law_lists kV__law_lists dc__law_lists pm__law_lists cd__law_lists ct__law_lists : Value} {od__law_heaps an__law_heaps : Option Addr} {sl__law_heaps : Array (Option Value)} {oc__law_heaps kV__law_heaps dc__law_heaps pm__law_heaps cd__law_heaps ct__law_heaps : Value} {od_law an_law : Option Addr} {sl_law : Array (Option Value)} {oc_law kV_law dc_law pm_law cd_law ct_law : Value}
    (hfa : mg "law" = some (.ref fa))
    (aC : PySem.W.nsIn K mainGlobals "Tree" = some (some (.ref C)))
    (a_is_integer : PySem.W.nsIn K mainGlobals "is_integer" = some (some (.ref f_is_integer)))
    (l_is_integer : K.lookup f_is_integer = some ⟨oc_is_integer, od_is_integer, .func (PySem.W.fnOf "is_integer" "is_integer" (defArgs s_is_integer) (defBody s_is_integer) (defScope s_is_integer) .none kV_is_integer dc_is_integer pm_is_integer an_is_integer cd_is_integer ct_is_integer), sl_is_integer⟩)
    (c_is_integer : PySem.W.codeIn K cd_is_integer "is_integer" = true)
    (k_is_integer : PySem.W.keepIn K (.ref f_is_integer) = true)
    (a_is_integer_from : PySem.W.nsIn K mainGlobals "is_integer_from" = some (some (.ref f_is_integer_from)))
    (l_is_integer_from : K.lookup f_is_integer_from = some ⟨oc_is_integer_from, od_is_integer_from, .func (PySem.W.fnOf "is_integer_from" "is_integer_from" (defArgs s_is_integer_from) (defBody s_is_integer_from) (defScope s_is_integer_from) .none kV_is_integer_from dc_is_integer_from pm_is_integer_from an_is_integer_from cd_is_integer_from ct_is_integer_from), sl_is_integer_from⟩)
    (c_is_integer_from : PySem.W.codeIn K cd_is_integer_from "is_integer_from" = true)
    (k_is_integer_from : PySem.W.keepIn K (.ref f_is_integer_from) = true)
    (a_is_key : PySem.W.nsIn K mainGlobals "is_key" = some (some (.ref f_is_key)))
    (l_is_key : K.lookup f_is_key = some ⟨oc_is_key, od_is_key, .func (PySem.W.fnOf "is_key" "is_key" (defArgs s_is_key) (defBody s_is_key) (defScope s_is_key) .none kV_is_key dc_is_key pm_is_key an_is_key cd_is_key ct_is_key), sl_is_key⟩)
    (c_is_key : PySem.W.codeIn K cd_is_key "is_key" = true)
    (k_is_key : PySem.W.keepIn K (.ref f_is_key) = true)
    (a_check_arms : PySem.W.nsIn K mainGlobals "check_arms" = some (some (.ref f_check_arms)))
    (l_check_arms : K.lookup f_check_arms = some ⟨oc_check_arms, od_check_arms, .func (PySem.W.fnOf "check_arms" "check_arms" (defArgs s_check_arms) (defBody s_check_arms) (defScope s_check_arms) .none kV_check_arms dc_check_arms pm_check_arms an_check_arms cd_check_arms ct_check_arms), sl_check_arms⟩)
    (c_check_arms : PySem.W.codeIn K cd_check_arms "check_arms" = true)
    (k_check_arms : PySem.W.keepIn K (.ref f_check_arms) = true)
    (a_check_many : PySem.W.nsIn K mainGlobals "check_many" = some (some (.ref f_check_many)))
    (l_check_many : K.lookup f_check_many = some ⟨oc_check_many, od_check_many, .func (PySem.W.fnOf "check_many" "check_many" (defArgs s_check_many) (defBody s_check_many) (defScope s_check_many) .none kV_check_many dc_check_many pm_check_many an_check_many cd_check_many ct_check_many), sl_check_many⟩)
    (c_check_many : PySem.W.codeIn K cd_check_many "check_many" = true)
    (k_check_many : PySem.W.keepIn K (.ref f_check_many) = true)
    (a_check_place : PySem.W.nsIn K mainGlobals "check_place" = some (some (.ref f_check_place)))
    (l_check_place : K.lookup f_check_place = some ⟨oc_check_place, od_check_place, .func (PySem.W.fnOf "check_place" "check_place" (defArgs s_check_place) (defBody s_check_place) (defScope s_check_place) .none kV_check_place dc_check_place pm_check_place an_check_place cd_check_place ct_check_place), sl_check_place⟩)
    (c_check_place : PySem.W.codeIn K cd_check_place "check_place" = true)
    (k_check_place : PySem.W.keepIn K (.ref f_check_place) = true)
    (a_row_of : PySem.W.nsIn K mainGlobals "row_of" = some (some (.ref f_row_of)))
    (l_row_of : K.lookup f_row_of = some ⟨oc_row_of, od_row_of, .func (PySem.W.fnOf "row_of" "row_of" (defArgs s_row_of) (defBody s_row_of) (defScope s_row_of) .none kV_row_of dc_row_of pm_row_of an_row_of cd_row_of ct_row_of), sl_row_of⟩)
    (c_row_of : PySem.W.codeIn K cd_row_of "row_of" = true)
    (k_row_of : PySem.W.keepIn K (.ref f_row_of) = true)
    (a_check_few : PySem.W.nsIn K mainGlobals "check_few" = some (some (.ref f_check_few)))
    (l_check_few : K.lookup f_check_few = some ⟨oc_check_few, od_check_few, .func (PySem.W.fnOf "check_few" "check_few" (defArgs s_check_few) (defBody s_check_few) (defScope s_check_few) .none kV_check_few dc_check_few pm_check_few an_check_few cd_check_few ct_check_few), sl_check_few⟩)
    (c_check_few : PySem.W.codeIn K cd_check_few "check_few" = true)
    (k_check_few : PySem.W.keepIn K (.ref f_check_few) = true)
    (a_t___init__ : PySem.W.findIn K (.ref C) "__init__" = some (some (.ref f_t___init__)))
    (i_t___init__ : PySem.W.isFn K (.ref f_t___init__) = true)
    (l_t___init__ : K.lookup f_t___init__ = some ⟨oc_t___init__, od_t___init__, .func (PySem.W.fnOf "__init__" "Tree.__init__" (defArgs s_t___init__) (defBody s_t___init__) (defScope s_t___init__) .none (.ref D_t___init__) dc_t___init__ pm_t___init__ an_t___init__ cd_t___init__ ct_t___init__), sl_t___init__⟩)
    (c_t___init__ : PySem.W.codeIn K cd_t___init__ "Tree.__init__" = true)
    (k_t___init__ : PySem.W.keepIn K (.ref f_t___init__) = true)
    {tk_t___init__ : Tok}
    (w_t___init__ : PySem.W.nsIn K D_t___init__ "arms" = some (some (.int 2 tk_t___init__)))
    (a_t_of : PySem.W.findCls K (.ref C) (.type "type") "of" = some (.get (.builtin "classmethod.__get__") (.ref po) .none (.ref C)))
    {rest_of : List Value}
    (r_t_of : PySem.W.recIn K po "classmethod" = some (.ref f_t_of :: rest_of))
    (n_t_of : PySem.W.fnIn K f_t_of = true)
    (l_t_of : K.lookup f_t_of = some ⟨oc_t_of, od_t_of, .func (PySem.W.fnOf "of" "Tree.of" (defArgs s_t_of) (defBody s_t_of) (defScope s_t_of) .none (.ref D_t_of) dc_t_of pm_t_of an_t_of cd_t_of ct_t_of), sl_t_of⟩)
    (c_t_of : PySem.W.codeIn K cd_t_of "Tree.of" = true)
    (k_t_of : PySem.W.keepIn K (.ref f_t_of) = true)
    {tk_t_of : Tok}
    (w_t_of : PySem.W.nsIn K D_t_of "arms" = some (some (.int 2 tk_t_of)))
    (a_t___len__ : PySem.W.findIn K (.ref C) "__len__" = some (some (.ref f_t___len__)))
    (i_t___len__ : PySem.W.isFn K (.ref f_t___len__) = true)
    (n_t___len__ : PySem.W.fnIn K f_t___len__ = true)
    (l_t___len__ : K.lookup f_t___len__ = some ⟨oc_t___len__, od_t___len__, .func (PySem.W.fnOf "__len__" "Tree.__len__" (defArgs s_t___len__) (defBody s_t___len__) (defScope s_t___len__) .none kV_t___len__ dc_t___len__ pm_t___len__ an_t___len__ cd_t___len__ ct_t___len__), sl_t___len__⟩)
    (c_t___len__ : PySem.W.codeIn K cd_t___len__ "Tree.__len__" = true)
    (k_t___len__ : PySem.W.keepIn K (.ref f_t___len__) = true)
    (a_t___iter__ : PySem.W.findIn K (.ref C) "__iter__" = some (some (.ref f_t___iter__)))
    (i_t___iter__ : PySem.W.isFn K (.ref f_t___iter__) = true)
    (n_t___iter__ : PySem.W.fnIn K f_t___iter__ = true)
    (l_t___iter__ : K.lookup f_t___iter__ = some ⟨oc_t___iter__, od_t___iter__, .func (PySem.W.fnOf "__iter__" "Tree.__iter__" (defArgs s_t___iter__) (defBody s_t___iter__) (defScope s_t___iter__) .none kV_t___iter__ dc_t___iter__ pm_t___iter__ an_t___iter__ cd_t___iter__ ct_t___iter__), sl_t___iter__⟩)
    (c_t___iter__ : PySem.W.codeIn K cd_t___iter__ "Tree.__iter__" = true)
    (k_t___iter__ : PySem.W.keepIn K (.ref f_t___iter__) = true)
    (a_t_parent : PySem.W.findIn K (.ref C) "parent" = some (some (.ref f_t_parent)))
    (i_t_parent : PySem.W.isFn K (.ref f_t_parent) = true)
    (l_t_parent : K.lookup f_t_parent = some ⟨oc_t_parent, od_t_parent, .func (PySem.W.fnOf "parent" "Tree.parent" (defArgs s_t_parent) (defBody s_t_parent) (defScope s_t_parent) .none kV_t_parent dc_t_parent pm_t_parent an_t_parent cd_t_parent ct_t_parent), sl_t_parent⟩)
    (c_t_parent : PySem.W.codeIn K cd_t_parent "Tree.parent" = true)
    (k_t_parent : PySem.W.keepIn K (.ref f_t_parent) = true)
    (a_t_way_to : PySem.W.findIn K (.ref C) "way_to" = some (some (.ref f_t_way_to)))
    (i_t_way_to : PySem.W.isFn K (.ref f_t_way_to) = true)
    (l_t_way_to : K.lookup f_t_way_to = some ⟨oc_t_way_to, od_t_way_to, .func (PySem.W.fnOf "way_to" "Tree.way_to" (defArgs s_t_way_to) (defBody s_t_way_to) (defScope s_t_way_to) .none kV_t_way_to dc_t_way_to pm_t_way_to an_t_way_to cd_t_way_to ct_t_way_to), sl_t_way_to⟩)
    (c_t_way_to : PySem.W.codeIn K cd_t_way_to "Tree.way_to" = true)
    (k_t_way_to : PySem.W.keepIn K (.ref f_t_way_to) = true)
    (a_t_subtree : PySem.W.findIn K (.ref C) "subtree" = some (some (.ref f_t_subtree)))
    (i_t_subtree : PySem.W.isFn K (.ref f_t_subtree) = true)
    (l_t_subtree : K.lookup f_t_subtree = some ⟨oc_t_subtree, od_t_subtree, .func (PySem.W.fnOf "subtree" "Tree.subtree" (defArgs s_t_subtree) (defBody s_t_subtree) (defScope s_t_subtree) .none kV_t_subtree dc_t_subtree pm_t_subtree an_t_subtree cd_t_subtree ct_t_subtree), sl_t_subtree⟩)
    (c_t_subtree : PySem.W.codeIn K cd_t_subtree "Tree.subtree" = true)
    (k_t_subtree : PySem.W.keepIn K (.ref f_t_subtree) = true)
    (a_t_size : PySem.W.findIn K (.ref C) "size" = some (some (.ref f_t_size)))
    (i_t_size : PySem.W.isFn K (.ref f_t_size) = true)
    (l_t_size : K.lookup f_t_size = some ⟨oc_t_size, od_t_size, .func (PySem.W.fnOf "size" "Tree.size" (defArgs s_t_size) (defBody s_t_size) (defScope s_t_size) .none kV_t_size dc_t_size pm_t_size an_t_size cd_t_size ct_t_size), sl_t_size⟩)
    (c_t_size : PySem.W.codeIn K cd_t_size "Tree.size" = true)
    (k_t_size : PySem.W.keepIn K (.ref f_t_size) = true)
    (a_how_many_of : PySem.W.nsIn K mainGlobals "how_many_of" = some (some (.ref f_how_many_of)))
    (l_how_many_of : K.lookup f_how_many_of = some ⟨oc_how_many_of, od_how_many_of, .func (PySem.W.fnOf "how_many_of" "how_many_of" (defArgs s_how_many_of) (defBody s_how_many_of) (defScope s_how_many_of) .none (.ref D_how_many_of) dc_how_many_of pm_how_many_of an_how_many_of cd_how_many_of ct_how_many_of), sl_how_many_of⟩)
    (c_how_many_of : PySem.W.codeIn K cd_how_many_of "how_many_of" = true)
    (k_how_many_of : PySem.W.keepIn K (.ref f_how_many_of) = true)
    {tk_how_many_of : Tok}
    (w_how_many_of : PySem.W.nsIn K D_how_many_of "arms" = some (some (.int 2 tk_how_many_of)))
    (a_closed_sizes : PySem.W.nsIn K mainGlobals "closed_sizes" = some (some (.ref f_closed_sizes)))
    (l_closed_sizes : K.lookup f_closed_sizes = some ⟨oc_closed_sizes, od_closed_sizes, .func (PySem.W.fnOf "closed_sizes" "closed_sizes" (defArgs s_closed_sizes) (defBody s_closed_sizes) (defScope s_closed_sizes) .none kV_closed_sizes dc_closed_sizes pm_closed_sizes an_closed_sizes cd_closed_sizes ct_closed_sizes), sl_closed_sizes⟩)
    (c_closed_sizes : PySem.W.codeIn K cd_closed_sizes "closed_sizes" = true)
    (k_closed_sizes : PySem.W.keepIn K (.ref f_closed_sizes) = true)
    (a_chains_to : PySem.W.nsIn K mainGlobals "chains_to" = some (some (.ref f_chains_to)))
    (l_chains_to : K.lookup f_chains_to = some ⟨oc_chains_to, od_chains_to, .func (PySem.W.fnOf "chains_to" "chains_to" (defArgs s_chains_to) (defBody s_chains_to) (defScope s_chains_to) .none kV_chains_to dc_chains_to pm_chains_to an_chains_to cd_chains_to ct_chains_to), sl_chains_to⟩)
    (c_chains_to : PySem.W.codeIn K cd_chains_to "chains_to" = true)
    (k_chains_to : PySem.W.keepIn K (.ref f_chains_to) = true)
    (a_how_many : PySem.W.nsIn K mainGlobals "how_many" = some (some (.ref f_how_many)))
    (l_how_many : K.lookup f_how_many = some ⟨oc_how_many, od_how_many, .func (PySem.W.fnOf "how_many" "how_many" (defArgs s_how_many) (defBody s_how_many) (defScope s_how_many) .none (.ref D_how_many) dc_how_many pm_how_many an_how_many cd_how_many ct_how_many), sl_how_many⟩)
    (c_how_many : PySem.W.codeIn K cd_how_many "how_many" = true)
    (k_how_many : PySem.W.keepIn K (.ref f_how_many) = true)
    {tk_how_many : Tok}
    (w_how_many : PySem.W.nsIn K D_how_many "arms" = some (some (.int 2 tk_how_many)))
    (a__law_number : PySem.W.nsIn K mainGlobals "_law_number" = some (some (.ref f__law_number)))
    (l__law_number : K.lookup f__law_number = some ⟨oc__law_number, od__law_number, .func (PySem.W.fnOf "_law_number" "_law_number" (defArgs s__law_number) (defBody s__law_number) (defScope s__law_number) .none kV__law_number dc__law_number pm__law_number an__law_number cd__law_number ct__law_number), sl__law_number⟩)
    (c__law_number : PySem.W.codeIn K cd__law_number "_law_number" = true)
    (k__law_number : PySem.W.keepIn K (.ref f__law_number) = true)
    (a__law_take : PySem.W.nsIn K mainGlobals "_law_take" = some (some (.ref f__law_take)))
    (l__law_take : K.lookup f__law_take = some ⟨oc__law_take, od__law_take, .func (PySem.W.fnOf "_law_take" "_law_take" (defArgs s__law_take) (defBody s__law_take) (defScope s__law_take) .none kV__law_take dc__law_take pm__law_take an__law_take cd__law_take ct__law_take), sl__law_take⟩)
    (c__law_take : PySem.W.codeIn K cd__law_take "_law_take" = true)
    (k__law_take : PySem.W.keepIn K (.ref f__law_take) = true)
    (a__law_pick : PySem.W.nsIn K mainGlobals "_law_pick" = some (some (.ref f__law_pick)))
    (l__law_pick : K.lookup f__law_pick = some ⟨oc__law_pick, od__law_pick, .func (PySem.W.fnOf "_law_pick" "_law_pick" (defArgs s__law_pick) (defBody s__law_pick) (defScope s__law_pick) .none kV__law_pick dc__law_pick pm__law_pick an__law_pick cd__law_pick ct__law_pick), sl__law_pick⟩)
    (c__law_pick : PySem.W.codeIn K cd__law_pick "_law_pick" = true)
    (k__law_pick : PySem.W.keepIn K (.ref f__law_pick) = true)
    (a__law_parent : PySem.W.nsIn K mainGlobals "_law_parent" = some (some (.ref f__law_parent)))
    (l__law_parent : K.lookup f__law_parent = some ⟨oc__law_parent, od__law_parent, .func (PySem.W.fnOf "_law_parent" "_law_parent" (defArgs s__law_parent) (defBody s__law_parent) (defScope s__law_parent) .none kV__law_parent dc__law_parent pm__law_parent an__law_parent cd__law_parent ct__law_parent), sl__law_parent⟩)
    (c__law_parent : PySem.W.codeIn K cd__law_parent "_law_parent" = true)
    (k__law_parent : PySem.W.keepIn K (.ref f__law_parent) = true)
    (a__law_way : PySem.W.nsIn K mainGlobals "_law_way" = some (some (.ref f__law_way)))
    (l__law_way : K.lookup f__law_way = some ⟨oc__law_way, od__law_way, .func (PySem.W.fnOf "_law_way" "_law_way" (defArgs s__law_way) (defBody s__law_way) (defScope s__law_way) .none kV__law_way dc__law_way pm__law_way an__law_way cd__law_way ct__law_way), sl__law_way⟩)
    (c__law_way : PySem.W.codeIn K cd__law_way "_law_way" = true)
    (k__law_way : PySem.W.keepIn K (.ref f__law_way) = true)
    (a__law_is_heap : PySem.W.nsIn K mainGlobals "_law_is_heap" = some (some (.ref f__law_is_heap)))
    (l__law_is_heap : K.lookup f__law_is_heap = some ⟨oc__law_is_heap, od__law_is_heap, .func (PySem.W.fnOf "_law_is_heap" "_law_is_heap" (defArgs s__law_is_heap) (defBody s__law_is_heap) (defScope s__law_is_heap) .none kV__law_is_heap dc__law_is_heap pm__law_is_heap an__law_is_heap cd__law_is_heap ct__law_is_heap), sl__law_is_heap⟩)
    (c__law_is_heap : PySem.W.codeIn K cd__law_is_heap "_law_is_heap" = true)
    (k__law_is_heap : PySem.W.keepIn K (.ref f__law_is_heap) = true)
    (a__law_arms : PySem.W.nsIn K mainGlobals "_law_arms" = some (some (.ref f__law_arms)))
    (l__law_arms : K.lookup f__law_arms = some ⟨oc__law_arms, od__law_arms, .func (PySem.W.fnOf "_law_arms" "_law_arms" (defArgs s__law_arms) (defBody s__law_arms) (defScope s__law_arms) .none kV__law_arms dc__law_arms pm__law_arms an__law_arms cd__law_arms ct__law_arms), sl__law_arms⟩)
    (c__law_arms : PySem.W.codeIn K cd__law_arms "_law_arms" = true)
    (k__law_arms : PySem.W.keepIn K (.ref f__law_arms) = true)
    (a__law_keys : PySem.W.nsIn K mainGlobals "_law_keys" = some (some (.ref f__law_keys)))
    (l__law_keys : K.lookup f__law_keys = some ⟨oc__law_keys, od__law_keys, .func (PySem.W.fnOf "_law_keys" "_law_keys" (defArgs s__law_keys) (defBody s__law_keys) (defScope s__law_keys) .none kV__law_keys dc__law_keys pm__law_keys an__law_keys cd__law_keys ct__law_keys), sl__law_keys⟩)
    (c__law_keys : PySem.W.codeIn K cd__law_keys "_law_keys" = true)
    (k__law_keys : PySem.W.keepIn K (.ref f__law_keys) = true)
    (a__law_order : PySem.W.nsIn K mainGlobals "_law_order" = some (some (.ref f__law_order)))
    (l__law_order : K.lookup f__law_order = some ⟨oc__law_order, od__law_order, .func (PySem.W.fnOf "_law_order" "_law_order" (defArgs s__law_order) (defBody s__law_order) (defScope s__law_order) .none kV__law_order dc__law_order pm__law_order an__law_order cd__law_order ct__law_order), sl__law_order⟩)
    (c__law_order : PySem.W.codeIn K cd__law_order "_law_order" = true)
    (k__law_order : PySem.W.keepIn K (.ref f__law_order) = true)
    (a__law_lists : PySem.W.nsIn K mainGlobals "_law_lists" = some (some (.ref f__law_lists)))
    (l__law_lists : K.lookup f__law_lists = some ⟨oc__law_lists, od__law_lists, .func (PySem.W.fnOf "_law_lists" "_law_lists" (defArgs s__law_lists) (defBody s__law_lists) (defScope s__law_lists) .none kV__law_lists dc__law_lists pm__law_lists an__law_lists cd__law_lists ct__law_lists), sl__law_lists⟩)
    (c__law_lists : PySem.W.codeIn K cd__law_lists "_law_lists" = true)
    (k__law_lists : PySem.W.keepIn K (.ref f__law_lists) = true)
    (a__law_heaps : PySem.W.nsIn K mainGlobals "_law_heaps" = some (some (.ref f__law_heaps)))
    (l__law_heaps : K.lookup f__law_heaps = some ⟨oc__law_heaps, od__law_heaps, .func (PySem.W.fnOf "_law_heaps" "_law_heaps" (defArgs s__law_heaps) (defBody s__law_heaps) (defScope s__law_heaps) .none kV__law_heaps dc__law_heaps pm__law_heaps an__law_heaps cd__law_heaps ct__law_heaps), sl__law_heaps⟩)
    (c__law_heaps : PySem.W.codeIn K cd__law_heaps "_law_heaps" = true)
    (k__law_heaps : PySem.W.keepIn K (.ref f__law_heaps) = true)
    (a_law : PySem.W.nsIn K mainGlobals "law" = some (some (.ref f_law)))
    (l_law : K.lookup f_law = some ⟨oc_law, od_law, .func (PySem.W.fnOf "law" "law" (defArgs s_law) (defBody s_law) (defScope s_law) .none kV_law dc_law pm_law an_law cd_law ct_law), sl_law⟩)
    (c_law : PySem.W.codeIn K cd_law "law" = true)
    (k_law : PySem.W.keepIn K (.ref f_law) = true)
    {tc_GREATEST_KEY : Tok}
    (q_GREATEST_KEY : PySem.W.nsIn K mainGlobals "GREATEST_KEY" = some (some (.int 1000000000 tc_GREATEST_KEY)))
    {tc_MOST_ARMS : Tok}
    (q_MOST_ARMS : PySem.W.nsIn K mainGlobals "MOST_ARMS" = some (some (.int 4 tc_MOST_ARMS)))
    {tc_MOST_KEYS : Tok}
    (q_MOST_KEYS : PySem.W.nsIn K mainGlobals "MOST_KEYS" = some (some (.int 10 tc_MOST_KEYS)))
    {tc_MOST_PLACES : Tok}
    (q_MOST_PLACES : PySem.W.nsIn K mainGlobals "MOST_PLACES" = some (some (.int 12 tc_MOST_PLACES)))
    (y_factorial : PySem.W.nsIn K mainGlobals "factorial" = some (some (.builtin "math.factorial")))
    (z_any : PySem.W.nsIn K mainGlobals "any" = some none)
    (z_bool : PySem.W.nsIn K mainGlobals "bool" = some none)
    (z_enumerate : PySem.W.nsIn K mainGlobals "enumerate" = some none)
    (z_int : PySem.W.nsIn K mainGlobals "int" = some none)
    (z_isinstance : PySem.W.nsIn K mainGlobals "isinstance" = some none)
    (z_iter : PySem.W.nsIn K mainGlobals "iter" = some none)
    (z_len : PySem.W.nsIn K mainGlobals "len" = some none)
    (z_list : PySem.W.nsIn K mainGlobals "list" = some none)
    (z_range : PySem.W.nsIn K mainGlobals "range" = some none)
    (z_set : PySem.W.nsIn K mainGlobals "set" = some none)
    (z_sorted : PySem.W.nsIn K mainGlobals "sorted" = some none)
    (z_sum : PySem.W.nsIn K mainGlobals "sum" = some none)
    (z_tuple : PySem.W.nsIn K mainGlobals "tuple" = some none)
    (pg : PySem.W.plainGet K C Str.empty = true)
    (hd : PySem.W.hasDictIn K C = true)
    (po_ : PySem.W.plainOver K C = true)
    (sa : PySem.W.findIn K (.ref C) "__setattr__" = some (some (.builtin "object.__setattr__")))
    (na_nMany : PySem.W.findIn K (.ref C) "many" = some none)
    (na_nArms : PySem.W.findIn K (.ref C) "arms" = some none)
    (na_nPl : PySem.W.findIn K (.ref C) "_places" = some none)
    (mk : PySem.W.makesIn K C = true)
    (kc : PySem.W.keepIn K (.ref C) = true)
    (rd : PySem.W.readsIn K C (.type "type") = true)
    (ga : PySem.W.specialIn K (.ref C) "__getattribute__" = some (some (.builtin "type.__getattribute__")))
    : ∃ fd : FuncData, (∀ (s : Shared) (v : Value), BindsTo s fd ⟨[v], []⟩ [("script", v)]) ∧ ∀ base : Heap, K.In base → base.Ns mainGlobals mg → FnOk l.prog w K mg base CX0 12 fa fd ["script"] (spLaw K) := by
  have e := hfa.symm.trans (PySem.W.mg_of X G a_law)
  cases e
  let A : Ad := { f_is_integer := f_is_integer, d_is_integer := (PySem.W.fnOf "is_integer" "is_integer" (defArgs s_is_integer) (defBody s_is_integer) (defScope s_is_integer) .none kV_is_integer dc_is_integer pm_is_integer an_is_integer cd_is_integer ct_is_integer), f_is_integer_from := f_is_integer_from, d_is_integer_from := (PySem.W.fnOf "is_integer_from" "is_integer_from" (defArgs s_is_integer_from) (defBody s_is_integer_from) (defScope s_is_integer_from) .none kV_is_integer_from dc_is_integer_from pm_is_integer_from an_is_integer_from cd_is_integer_from ct_is_integer_from), f_is_key := f_is_key, d_is_key := (PySem.W.fnOf "is_key" "is_key" (defArgs s_is_key) (defBody s_is_key) (defScope s_is_key) .none kV_is_key dc_is_key pm_is_key an_is_key cd_is_key ct_is_key), f_check_arms := f_check_arms, d_check_arms := (PySem.W.fnOf "check_arms" "check_arms" (defArgs s_check_arms) (defBody s_check_arms) (defScope s_check_arms) .none kV_check_arms dc_check_arms pm_check_arms an_check_arms cd_check_arms ct_check_arms), f_check_many := f_check_many, d_check_many := (PySem.W.fnOf "check_many" "check_many" (defArgs s_check_many) (defBody s_check_many) (defScope s_check_many) .none kV_check_many dc_check_many pm_check_many an_check_many cd_check_many ct_check_many), f_check_place := f_check_place, d_check_place := (PySem.W.fnOf "check_place" "check_place" (defArgs s_check_place) (defBody s_check_place) (defScope s_check_place) .none kV_check_place dc_check_place pm_check_place an_check_place cd_check_place ct_check_place), f_row_of := f_row_of, d_row_of := (PySem.W.fnOf "row_of" "row_of" (defArgs s_row_of) (defBody s_row_of) (defScope s_row_of) .none kV_row_of dc_row_of pm_row_of an_row_of cd_row_of ct_row_of), f_check_few := f_check_few, d_check_few := (PySem.W.fnOf "check_few" "check_few" (defArgs s_check_few) (defBody s_check_few) (defScope s_check_few) .none kV_check_few dc_check_few pm_check_few an_check_few cd_check_few ct_check_few), f_t___init__ := f_t___init__, d_t___init__ := (PySem.W.fnOf "__init__" "Tree.__init__" (defArgs s_t___init__) (defBody s_t___init__) (defScope s_t___init__) .none (.ref D_t___init__) dc_t___init__ pm_t___init__ an_t___init__ cd_t___init__ ct_t___init__), f_t_of := f_t_of, d_t_of := (PySem.W.fnOf "of" "Tree.of" (defArgs s_t_of) (defBody s_t_of) (defScope s_t_of) .none (.ref D_t_of) dc_t_of pm_t_of an_t_of cd_t_of ct_t_of), f_t___len__ := f_t___len__, d_t___len__ := (PySem.W.fnOf "__len__" "Tree.__len__" (defArgs s_t___len__) (defBody s_t___len__) (defScope s_t___len__) .none kV_t___len__ dc_t___len__ pm_t___len__ an_t___len__ cd_t___len__ ct_t___len__), f_t___iter__ := f_t___iter__, d_t___iter__ := (PySem.W.fnOf "__iter__" "Tree.__iter__" (defArgs s_t___iter__) (defBody s_t___iter__) (defScope s_t___iter__) .none kV_t___iter__ dc_t___iter__ pm_t___iter__ an_t___iter__ cd_t___iter__ ct_t___iter__), f_t_parent := f_t_parent, d_t_parent := (PySem.W.fnOf "parent" "Tree.parent" (defArgs s_t_parent) (defBody s_t_parent) (defScope s_t_parent) .none kV_t_parent dc_t_parent pm_t_parent an_t_parent cd_t_parent ct_t_parent), f_t_way_to := f_t_way_to, d_t_way_to := (PySem.W.fnOf "way_to" "Tree.way_to" (defArgs s_t_way_to) (defBody s_t_way_to) (defScope s_t_way_to) .none kV_t_way_to dc_t_way_to pm_t_way_to an_t_way_to cd_t_way_to ct_t_way_to), f_t_subtree := f_t_subtree, d_t_subtree := (PySem.W.fnOf "subtree" "Tree.subtree" (defArgs s_t_subtree) (defBody s_t_subtree) (defScope s_t_subtree) .none kV_t_subtree dc_t_subtree pm_t_subtree an_t_subtree cd_t_subtree ct_t_subtree), f_t_size := f_t_size, d_t_size := (PySem.W.fnOf "size" "Tree.size" (defArgs s_t_size) (defBody s_t_size) (defScope s_t_size) .none kV_t_size dc_t_size pm_t_size an_t_size cd_t_size ct_t_size), f_how_many_of := f_how_many_of, d_how_many_of := (PySem.W.fnOf "how_many_of" "how_many_of" (defArgs s_how_many_of) (defBody s_how_many_of) (defScope s_how_many_of) .none (.ref D_how_many_of) dc_how_many_of pm_how_many_of an_how_many_of cd_how_many_of ct_how_many_of), f_closed_sizes := f_closed_sizes, d_closed_sizes := (PySem.W.fnOf "closed_sizes" "closed_sizes" (defArgs s_closed_sizes) (defBody s_closed_sizes) (defScope s_closed_sizes) .none kV_closed_sizes dc_closed_sizes pm_closed_sizes an_closed_sizes cd_closed_sizes ct_closed_sizes), f_chains_to := f_chains_to, d_chains_to := (PySem.W.fnOf "chains_to" "chains_to" (defArgs s_chains_to) (defBody s_chains_to) (defScope s_chains_to) .none kV_chains_to dc_chains_to pm_chains_to an_chains_to cd_chains_to ct_chains_to), f_how_many := f_how_many, d_how_many := (PySem.W.fnOf "how_many" "how_many" (defArgs s_how_many) (defBody s_how_many) (defScope s_how_many) .none (.ref D_how_many) dc_how_many pm_how_many an_how_many cd_how_many ct_how_many), f__law_number := f__law_number, d__law_number := (PySem.W.fnOf "_law_number" "_law_number" (defArgs s__law_number) (defBody s__law_number) (defScope s__law_number) .none kV__law_number dc__law_number pm__law_number an__law_number cd__law_number ct__law_number), f__law_take := f__law_take, d__law_take := (PySem.W.fnOf "_law_take" "_law_take" (defArgs s__law_take) (defBody s__law_take) (defScope s__law_take) .none kV__law_take dc__law_take pm__law_take an__law_take cd__law_take ct__law_take), f__law_pick := f__law_pick, d__law_pick := (PySem.W.fnOf "_law_pick" "_law_pick" (defArgs s__law_pick) (defBody s__law_pick) (defScope s__law_pick) .none kV__law_pick dc__law_pick pm__law_pick an__law_pick cd__law_pick ct__law_pick), f__law_parent := f__law_parent, d__law_parent := (PySem.W.fnOf "_law_parent" "_law_parent" (defArgs s__law_parent) (defBody s__law_parent) (defScope s__law_parent) .none kV__law_parent dc__law_parent pm__law_parent an__law_parent cd__law_parent ct__law_parent), f__law_way := f__law_way, d__law_way := (PySem.W.fnOf "_law_way" "_law_way" (defArgs s__law_way) (defBody s__law_way) (defScope s__law_way) .none kV__law_way dc__law_way pm__law_way an__law_way cd__law_way ct__law_way), f__law_is_heap := f__law_is_heap, d__law_is_heap := (PySem.W.fnOf "_law_is_heap" "_law_is_heap" (defArgs s__law_is_heap) (defBody s__law_is_heap) (defScope s__law_is_heap) .none kV__law_is_heap dc__law_is_heap pm__law_is_heap an__law_is_heap cd__law_is_heap ct__law_is_heap), f__law_arms := f__law_arms, d__law_arms := (PySem.W.fnOf "_law_arms" "_law_arms" (defArgs s__law_arms) (defBody s__law_arms) (defScope s__law_arms) .none kV__law_arms dc__law_arms pm__law_arms an__law_arms cd__law_arms ct__law_arms), f__law_keys := f__law_keys, d__law_keys := (PySem.W.fnOf "_law_keys" "_law_keys" (defArgs s__law_keys) (defBody s__law_keys) (defScope s__law_keys) .none kV__law_keys dc__law_keys pm__law_keys an__law_keys cd__law_keys ct__law_keys), f__law_order := f__law_order, d__law_order := (PySem.W.fnOf "_law_order" "_law_order" (defArgs s__law_order) (defBody s__law_order) (defScope s__law_order) .none kV__law_order dc__law_order pm__law_order an__law_order cd__law_order ct__law_order), f__law_lists := f__law_lists, d__law_lists := (PySem.W.fnOf "_law_lists" "_law_lists" (defArgs s__law_lists) (defBody s__law_lists) (defScope s__law_lists) .none kV__law_lists dc__law_lists pm__law_lists an__law_lists cd__law_lists ct__law_lists), f__law_heaps := f__law_heaps, d__law_heaps := (PySem.W.fnOf "_law_heaps" "_law_heaps" (defArgs s__law_heaps) (defBody s__law_heaps) (defScope s__law_heaps) .none kV__law_heaps dc__law_heaps pm__law_heaps an__law_heaps cd__law_heaps ct__law_heaps), f_law := fa, d_law := (PySem.W.fnOf "law" "law" (defArgs s_law) (defBody s_law) (defScope s_law) .none kV_law dc_law pm_law an_law cd_law ct_law), C := C, po := po }
  have T : Tx K mg A := {
    F_is_integer := (fun_mk (st := s_is_integer) l_is_integer c_is_integer k_is_integer)
    m_is_integer := PySem.W.mg_of X G a_is_integer
    F_is_integer_from := (fun_mk (st := s_is_integer_from) l_is_integer_from c_is_integer_from k_is_integer_from)
    m_is_integer_from := PySem.W.mg_of X G a_is_integer_from
    F_is_key := (fun_mk (st := s_is_key) l_is_key c_is_key k_is_key)
    m_is_key := PySem.W.mg_of X G a_is_key
    F_check_arms := (fun_mk (st := s_check_arms) l_check_arms c_check_arms k_check_arms)
    m_check_arms := PySem.W.mg_of X G a_check_arms
    F_check_many := (fun_mk (st := s_check_many) l_check_many c_check_many k_check_many)
    m_check_many := PySem.W.mg_of X G a_check_many
    F_check_place := (fun_mk (st := s_check_place) l_check_place c_check_place k_check_place)
    m_check_place := PySem.W.mg_of X G a_check_place
    F_row_of := (fun_mk (st := s_row_of) l_row_of c_row_of k_row_of)
    m_row_of := PySem.W.mg_of X G a_row_of
    F_check_few := (fun_mk (st := s_check_few) l_check_few c_check_few k_check_few)
    m_check_few := PySem.W.mg_of X G a_check_few
    F_t___init__ := ⟨⟨_, _, _, _, _, _, _, _, _, _, rfl, l_t___init__, c_t___init__, .inl ⟨rfl, rfl⟩, .inr ⟨_, rfl, fun q hq => by rw [List.mem_singleton.mp hq]; exact ⟨_, w_t___init__, relI _ _⟩⟩⟩, k_t___init__⟩
    F_t_of := ⟨⟨_, _, _, _, _, _, _, _, _, _, rfl, l_t_of, c_t_of, .inl ⟨rfl, rfl⟩, .inr ⟨_, rfl, fun q hq => by rw [List.mem_singleton.mp hq]; exact ⟨_, w_t_of, relI _ _⟩⟩⟩, k_t_of⟩
    F_t___len__ := (fun_mk (st := s_t___len__) l_t___len__ c_t___len__ k_t___len__)
    D_t___len__ := ⟨a_t___len__, i_t___len__, n_t___len__⟩
    F_t___iter__ := (fun_mk (st := s_t___iter__) l_t___iter__ c_t___iter__ k_t___iter__)
    D_t___iter__ := ⟨a_t___iter__, i_t___iter__, n_t___iter__⟩
    F_t_parent := (fun_mk (st := s_t_parent) l_t_parent c_t_parent k_t_parent)
    M_t_parent := ⟨a_t_parent, i_t_parent, k_t_parent⟩
    F_t_way_to := (fun_mk (st := s_t_way_to) l_t_way_to c_t_way_to k_t_way_to)
    M_t_way_to := ⟨a_t_way_to, i_t_way_to, k_t_way_to⟩
    F_t_subtree := (fun_mk (st := s_t_subtree) l_t_subtree c_t_subtree k_t_subtree)
    M_t_subtree := ⟨a_t_subtree, i_t_subtree, k_t_subtree⟩
    F_t_size := (fun_mk (st := s_t_size) l_t_size c_t_size k_t_size)
    M_t_size := ⟨a_t_size, i_t_size, k_t_size⟩
    F_how_many_of := ⟨⟨_, _, _, _, _, _, _, _, _, _, rfl, l_how_many_of, c_how_many_of, .inl ⟨rfl, rfl⟩, .inr ⟨_, rfl, fun q hq => by rw [List.mem_singleton.mp hq]; exact ⟨_, w_how_many_of, relI _ _⟩⟩⟩, k_how_many_of⟩
    m_how_many_of := PySem.W.mg_of X G a_how_many_of
    F_closed_sizes := (fun_mk (st := s_closed_sizes) l_closed_sizes c_closed_sizes k_closed_sizes)
    m_closed_sizes := PySem.W.mg_of X G a_closed_sizes
    F_chains_to := (fun_mk (st := s_chains_to) l_chains_to c_chains_to k_chains_to)
    m_chains_to := PySem.W.mg_of X G a_chains_to
    F_how_many := ⟨⟨_, _, _, _, _, _, _, _, _, _, rfl, l_how_many, c_how_many, .inl ⟨rfl, rfl⟩, .inr ⟨_, rfl, fun q hq => by rw [List.mem_singleton.mp hq]; exact ⟨_, w_how_many, relI _ _⟩⟩⟩, k_how_many⟩
    m_how_many := PySem.W.mg_of X G a_how_many
    F__law_number := (fun_mk (st := s__law_number) l__law_number c__law_number k__law_number)
    m__law_number := PySem.W.mg_of X G a__law_number
    F__law_take := (fun_mk (st := s__law_take) l__law_take c__law_take k__law_take)
    m__law_take := PySem.W.mg_of X G a__law_take
    F__law_pick := (fun_mk (st := s__law_pick) l__law_pick c__law_pick k__law_pick)
    m__law_pick := PySem.W.mg_of X G a__law_pick
    F__law_parent := (fun_mk (st := s__law_parent) l__law_parent c__law_parent k__law_parent)
    m__law_parent := PySem.W.mg_of X G a__law_parent
    F__law_way := (fun_mk (st := s__law_way) l__law_way c__law_way k__law_way)
    m__law_way := PySem.W.mg_of X G a__law_way
    F__law_is_heap := (fun_mk (st := s__law_is_heap) l__law_is_heap c__law_is_heap k__law_is_heap)
    m__law_is_heap := PySem.W.mg_of X G a__law_is_heap
    F__law_arms := (fun_mk (st := s__law_arms) l__law_arms c__law_arms k__law_arms)
    m__law_arms := PySem.W.mg_of X G a__law_arms
    F__law_keys := (fun_mk (st := s__law_keys) l__law_keys c__law_keys k__law_keys)
    m__law_keys := PySem.W.mg_of X G a__law_keys
    F__law_order := (fun_mk (st := s__law_order) l__law_order c__law_order k__law_order)
    m__law_order := PySem.W.mg_of X G a__law_order
    F__law_lists := (fun_mk (st := s__law_lists) l__law_lists c__law_lists k__law_lists)
    m__law_lists := PySem.W.mg_of X G a__law_lists
    F__law_heaps := (fun_mk (st := s__law_heaps) l__law_heaps c__law_heaps k__law_heaps)
    m__law_heaps := PySem.W.mg_of X G a__law_heaps
    F_law := (fun_mk (st := s_law) l_law c_law k_law)
    m_law := PySem.W.mg_of X G a_law
    c_GREATEST_KEY := .inr ⟨_, PySem.W.mg_of X G q_GREATEST_KEY⟩
    c_MOST_ARMS := .inr ⟨_, PySem.W.mg_of X G q_MOST_ARMS⟩
    c_MOST_KEYS := .inr ⟨_, PySem.W.mg_of X G q_MOST_KEYS⟩
    c_MOST_PLACES := .inr ⟨_, PySem.W.mg_of X G q_MOST_PLACES⟩
    b_factorial := PySem.W.mg_of X G y_factorial
    g_any := PySem.W.mg_none_of X G z_any
    g_bool := PySem.W.mg_none_of X G z_bool
    g_enumerate := PySem.W.mg_none_of X G z_enumerate
    g_int := PySem.W.mg_none_of X G z_int
    g_isinstance := PySem.W.mg_none_of X G z_isinstance
    g_iter := PySem.W.mg_none_of X G z_iter
    g_len := PySem.W.mg_none_of X G z_len
    g_list := PySem.W.mg_none_of X G z_list
    g_range := PySem.W.mg_none_of X G z_range
    g_set := PySem.W.mg_none_of X G z_set
    g_sorted := PySem.W.mg_none_of X G z_sorted
    g_sum := PySem.W.mg_none_of X G z_sum
    g_tuple := PySem.W.mg_none_of X G z_tuple
    cT := ⟨pg, hd, po_, sa⟩
    nMany := na_nMany
    nArms := na_nArms
    nPl := na_nPl
    mC := PySem.W.mg_of X G aC
    mkC := ⟨mk, a_t___init__, i_t___init__, kc⟩
    cr := ⟨rd, ga⟩
    cof := ⟨a_t_of, ⟨_, r_t_of⟩, n_t_of⟩
  }
  exact ⟨A.d_law, fun s v => .of_eq rfl, fun base _ _ => ok_law T⟩
theorem walk {l : PySem.W.OpenLaw} {q : Program} {loose : List Str} {XP : (Str → Option Value) → Heap → Prop} {YP : World → Heap → Prop} {d : DefRec} {K : Params → PySem.W.Frag} (hn : l.most = some 63) (hdf : d.params.defaults = [])
    (hY : ∀ (w : World) (h : Heap), YP w h → (K w.params).In h)
    (F : ∀ (w : World) (mg : Str → Option Value) (fa : Addr) (h : Heap), (K w.params).In h → h.Ns mainGlobals mg → mg d.name = some (.ref fa) →
      ∃ fd : FuncData, (∀ (s : Shared) (u : Value), BindsTo s fd ⟨[u], []⟩ [("script", u)]) ∧ ∀ base : Heap, (K w.params).In base → base.Ns mainGlobals mg → FnOk l.prog w (K w.params) mg base CX0 12 fa fd ["script"] (spLaw (K w.params))) :
    PySem.W.WalkO q loose XP YP l.row.toRowW d [] (fun f vs => PySem.call f vs) :=
  L2.walk_of (n := 63) (k := 12) (x := "script") (CX := fun _ => CX0) (sp := fun w => spLaw (K w.params)) hn (by decide) hdf ⟨rfl, by decide, by decide⟩ hY F (fun _ _ a ns hl _ hS => ⟨a, ns, rfl, hS, hl, fun _ => rfl⟩) fun _ _ _ _ _ z => z
end Tw

open PySem PySem.W PyProof.Rows in
set_option maxRecDepth 100000 in
set_option maxHeartbeats 0 in
theorem PySem.Challenge.cw_heaprows_k12_whole_dealt_holds : PySem.Challenge.rw_heaprows_k12_whole_dealt.Holds := by
  w_on; o_law; k_head; (case hw => w_witness2)
  k_fill
  refine Tw.walk (l := PySem.Challenge.rw_heaprows_k12_whole_dealt) rfl rfl (fun w h Y => PySem.W.kIn_of Y) ?F
  case F =>
    intro w mg fa h KX G hmg
    refine' Tw.all_mk KX G hmg ?aC ?a_is_integer ?l_is_integer ?c_is_integer ?k_is_integer ?a_is_integer_from ?l_is_integer_from ?c_is_integer_from ?k_is_integer_from ?a_is_key ?l_is_key ?c_is_key ?k_is_key ?a_check_arms ?l_check_arms ?c_check_arms ?k_check_arms ?a_check_many ?l_check_many ?c_check_many ?k_check_many ?a_check_place ?l_check_place ?c_check_place ?k_check_place ?a_row_of ?l_row_of ?c_row_of ?k_row_of ?a_check_few ?l_check_few ?c_check_few ?k_check_few ?a_t___init__ ?i_t___init__ ?l_t___init__ ?c_t___init__ ?k_t___init__ ?w_t___init__ ?a_t_of ?r_t_of ?n_t_of ?l_t_of ?c_t_of ?k_t_of ?w_t_of ?a_t___len__ ?i_t___len__ ?n_t___len__ ?l_t___len__ ?c_t___len__ ?k_t___len__ ?a_t___iter__ ?i_t___iter__ ?n_t___iter__ ?l_t___iter__ ?c_t___iter__ ?k_t___iter__ ?a_t_parent ?i_t_parent ?l_t_parent ?c_t_parent ?k_t_parent ?a_t_way_to ?i_t_way_to ?l_t_way_to ?c_t_way_to ?k_t_way_to ?a_t_subtree ?i_t_subtree ?l_t_subtree ?c_t_subtree ?k_t_subtree ?a_t_size ?i_t_size ?l_t_size ?c_t_size ?k_t_size ?a_how_many_of ?l_how_many_of ?c_how_many_of ?k_how_many_of ?w_how_many_of ?a_closed_sizes ?l_closed_sizes ?c_closed_sizes ?k_closed_sizes ?a_chains_to ?l_chains_to ?c_chains_to ?k_chains_to ?a_how_many ?l_how_many ?c_how_many ?k_how_many ?w_how_many ?a__law_number ?l__law_number ?c__law_number ?k__law_number ?a__law_take ?l__law_take ?c__law_take ?k__law_take ?a__law_pick ?l__law_pick ?c__law_pick ?k__law_pick ?a__law_parent ?l__law_parent ?c__law_parent ?k__law_parent ?a__law_way ?l__law_way ?c__law_way ?k__law_way ?a__law_is_heap ?l__law_is_heap ?c__law_is_heap ?k__law_is_heap ?a__law_arms ?l__law_arms ?c__law_arms ?k__law_arms ?a__law_keys ?l__law_keys ?c__law_keys ?k__law_keys ?a__law_order ?l__law_order ?c__law_order ?k__law_order ?a__law_lists ?l__law_lists ?c__law_lists ?k__law_lists ?a__law_heaps ?l__law_heaps ?c__law_heaps ?k__law_heaps ?a_law ?l_law ?c_law ?k_law ?q_GREATEST_KEY ?q_MOST_ARMS ?q_MOST_KEYS ?q_MOST_PLACES ?y_factorial ?z_any ?z_bool ?z_enumerate ?z_int ?z_isinstance ?z_iter ?z_len ?z_list ?z_range ?z_set ?z_sorted ?z_sum ?z_tuple ?pg ?hd ?po_ ?sa ?na_nMany ?na_nArms ?na_nPl ?mk ?kc ?rd ?ga
    (case aC => k_is)
    (case a_is_integer => k_is)
    (case l_is_integer => k_is)
    (case c_is_integer => k_is)
    (case k_is_integer => k_is)
    (case a_is_integer_from => k_is)
    (case l_is_integer_from => k_is)
    (case c_is_integer_from => k_is)
    (case k_is_integer_from => k_is)
    (case a_is_key => k_is)
    (case l_is_key => k_is)
    (case c_is_key => k_is)
    (case k_is_key => k_is)
    (case a_check_arms => k_is)
    (case l_check_arms => k_is)
    (case c_check_arms => k_is)
    (case k_check_arms => k_is)
    (case a_check_many => k_is)
    (case l_check_many => k_is)
    (case c_check_many => k_is)
    (case k_check_many => k_is)
    (case a_check_place => k_is)
    (case l_check_place => k_is)
    (case c_check_place => k_is)
    (case k_check_place => k_is)
    (case a_row_of => k_is)
    (case l_row_of => k_is)
    (case c_row_of => k_is)
    (case k_row_of => k_is)
    (case a_check_few => k_is)
    (case l_check_few => k_is)
    (case c_check_few => k_is)
    (case k_check_few => k_is)
    (case a_t___init__ => k_is)
    (case i_t___init__ => k_is)
    (case l_t___init__ => k_is)
    (case c_t___init__ => k_is)
    (case k_t___init__ => k_is)
    (case w_t___init__ => k_is)
    (case a_t_of => k_is)
    (case r_t_of => k_is)
    (case n_t_of => k_is)
    (case l_t_of => k_is)
    (case c_t_of => k_is)
    (case k_t_of => k_is)
    (case w_t_of => k_is)
    (case a_t___len__ => k_is)
    (case i_t___len__ => k_is)
    (case n_t___len__ => k_is)
    (case l_t___len__ => k_is)
    (case c_t___len__ => k_is)
    (case k_t___len__ => k_is)
    (case a_t___iter__ => k_is)
    (case i_t___iter__ => k_is)
    (case n_t___iter__ => k_is)
    (case l_t___iter__ => k_is)
    (case c_t___iter__ => k_is)
    (case k_t___iter__ => k_is)
    (case a_t_parent => k_is)
    (case i_t_parent => k_is)
    (case l_t_parent => k_is)
    (case c_t_parent => k_is)
    (case k_t_parent => k_is)
    (case a_t_way_to => k_is)
    (case i_t_way_to => k_is)
    (case l_t_way_to => k_is)
    (case c_t_way_to => k_is)
    (case k_t_way_to => k_is)
    (case a_t_subtree => k_is)
    (case i_t_subtree => k_is)
    (case l_t_subtree => k_is)
    (case c_t_subtree => k_is)
    (case k_t_subtree => k_is)
    (case a_t_size => k_is)
    (case i_t_size => k_is)
    (case l_t_size => k_is)
    (case c_t_size => k_is)
    (case k_t_size => k_is)
    (case a_how_many_of => k_is)
    (case l_how_many_of => k_is)
    (case c_how_many_of => k_is)
    (case k_how_many_of => k_is)
    (case w_how_many_of => k_is)
    (case a_closed_sizes => k_is)
    (case l_closed_sizes => k_is)
    (case c_closed_sizes => k_is)
    (case k_closed_sizes => k_is)
    (case a_chains_to => k_is)
    (case l_chains_to => k_is)
    (case c_chains_to => k_is)
    (case k_chains_to => k_is)
    (case a_how_many => k_is)
    (case l_how_many => k_is)
    (case c_how_many => k_is)
    (case k_how_many => k_is)
    (case w_how_many => k_is)
    (case a__law_number => k_is)
    (case l__law_number => k_is)
    (case c__law_number => k_is)
    (case k__law_number => k_is)
    (case a__law_take => k_is)
    (case l__law_take => k_is)
    (case c__law_take => k_is)
    (case k__law_take => k_is)
    (case a__law_pick => k_is)
    (case l__law_pick => k_is)
    (case c__law_pick => k_is)
    (case k__law_pick => k_is)
    (case a__law_parent => k_is)
    (case l__law_parent => k_is)
    (case c__law_parent => k_is)
    (case k__law_parent => k_is)
    (case a__law_way => k_is)
    (case l__law_way => k_is)
    (case c__law_way => k_is)
    (case k__law_way => k_is)
    (case a__law_is_heap => k_is)
    (case l__law_is_heap => k_is)
    (case c__law_is_heap => k_is)
    (case k__law_is_heap => k_is)
    (case a__law_arms => k_is)
    (case l__law_arms => k_is)
    (case c__law_arms => k_is)
    (case k__law_arms => k_is)
    (case a__law_keys => k_is)
    (case l__law_keys => k_is)
    (case c__law_keys => k_is)
    (case k__law_keys => k_is)
    (case a__law_order => k_is)
    (case l__law_order => k_is)
    (case c__law_order => k_is)
    (case k__law_order => k_is)
    (case a__law_lists => k_is)
    (case l__law_lists => k_is)
    (case c__law_lists => k_is)
    (case k__law_lists => k_is)
    (case a__law_heaps => k_is)
    (case l__law_heaps => k_is)
    (case c__law_heaps => k_is)
    (case k__law_heaps => k_is)
    (case a_law => k_is)
    (case l_law => k_is)
    (case c_law => k_is)
    (case k_law => k_is)
    (case q_GREATEST_KEY => k_is)
    (case q_MOST_ARMS => k_is)
    (case q_MOST_KEYS => k_is)
    (case q_MOST_PLACES => k_is)
    (case y_factorial => k_is)
    (case z_any => k_is)
    (case z_bool => k_is)
    (case z_enumerate => k_is)
    (case z_int => k_is)
    (case z_isinstance => k_is)
    (case z_iter => k_is)
    (case z_len => k_is)
    (case z_list => k_is)
    (case z_range => k_is)
    (case z_set => k_is)
    (case z_sorted => k_is)
    (case z_sum => k_is)
    (case z_tuple => k_is)
    (case pg => k_is)
    (case hd => k_is)
    (case po_ => k_is)
    (case sa => k_is)
    (case na_nMany => k_is)
    (case na_nArms => k_is)
    (case na_nPl => k_is)
    (case mk => k_is)
    (case kc => k_is)
    (case rd => k_is)
    (case ga => k_is)
