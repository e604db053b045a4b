/- What is proved here: plain facts and contracts that the claimed theorem stands on. No condition but those that each names. -/
import Derived.Test.YtmbjgiaebneodaaGreatG09
namespace Go.Proofs.YtmbjgiaebneodaaGreat
open Go.RowKit
set_option maxHeartbeats 1000000
set_option maxRecDepth 100000
theorem Be {P:Nat->Prop}:(N n:Nat)->n<=N->(x:Tm n)->Off P n x->Off P N (lift N n x)
 | _,0,_,_,k=>k.elim
 | 0,n+1,h,_,_=>by omega
 | N+1,n+1,h,x,k=>by
  rcases k with k|⟨b,o,e,hb,k⟩
  ·exact Or.inl (by simp[lift,k])
  ·refine Or.inr ⟨b,o,e,hb,fun i y hy=> ?_⟩
   simp only[lift,List.getElem?_map]at hy
   obtain⟨z,hz,rfl⟩:=Option.map_eq_some_iff.1 hy
   exact Be N n (by omega) z (k i z hz)
theorem LU (N n:Nat) (x:Tm (n+1)):val (N+1) (lift (N+1) (n+1) x)=val (n+1) x:=by simp[val,lift]
theorem Mj {N n:Nat} (h:n<=N) {x y:Tm (n+1)} (hr:ai ⟨n+1,x⟩) (hs:same (n+1) y (n+1) x=true):same (N+1) (lift (N+1) (n+1) y) (N+1) (lift (N+1) (n+1) x)=true:=by
 have hy:ai ⟨n+1,y⟩:=ax.2 (by rw[ib _ _ _ _ hs];exact ax.1 hr)
 exact aW _ _ _ _ _ _ (fB (N+1) (n+1) (by omega) y hy) (aW _ _ _ _ _ _ hs (cK _ _ _ _ (fB (N+1) (n+1) (by omega) x hr)))
theorem Gx {N n:Nat} (h:n<=N) {x y:Tm (n+1)} {w w':World} (hr:ai ⟨n+1,x⟩) (hb:Below w.heap.size w w') (hin:In w'.heap.size w' (n+1) y) (ho:Off (fun q=>w.heap.size<=q) (n+1) y) (hs:same (n+1) y (n+1) x=true) (r:Bool):
    jd (N+1) (if r then some (lift (N+1) (n+1) x)else none) w (.returned (.tuple #[.agg #[.int .i64 y.1.1,.int .i64 y.1.2.1,.string y.1.2.2,.slice y.2.1.1 y.2.2.length y.2.1.2],.bool r])) w':=by
 refine⟨lift (N+1) (n+1) y,r,by rw[LU];rfl,hb,nE _ _ (by omega) _ _ _ hin,Be _ _ (by omega) _ ho,by cases r<;>rfl,fun z hz=> ?_⟩
 cases r with
 | false=>cases hz
 | true=>
  obtain rfl:=Option.some.inj hz
  exact Mj h hr hs
theorem uQ {N:Nat} {o:Option (Tm (N+1))} {w w1 w2:World} {y:Tm (N+1)} {r:Bool} {q:Nat} (hb:Below w.heap.size w w1) (hq:w.heap.size<=q) (hq1:q<w1.heap.size)
    (h:Below w1.heap.size w1 w2/\In w2.heap.size w2 (N+1) y/\Off (fun q=>w1.heap.size<=q) (N+1) y/\r=o.isSome/\∀z,o=some z->same (N+1) y (N+1) z=true) (v0 v1 v2 v3:Value):
    jd (N+1) o w (.returned (.tuple #[.agg #[.int .i64 y.1.1,.int .i64 y.1.2.1,.string y.1.2.2,.slice y.2.1.1 y.2.2.length y.2.1.2],.bool r])) (bK w2 q 0 v0 v1 v2 v3):=by
 obtain⟨h1,h2,h3,h4,h5⟩:=h
 have hs:=hb.size
 refine⟨y,r,rfl,bL (hb.trans (h1.mono hs)) hq _ _ _ _, ?_,h3.mono fun b hh=>by omega,h4,h5⟩
 rw[aJ]
 exact In.off (P:=fun b=>w1.heap.size<=b) (fun b hh=>aA (by omega) _ _ _ _) h3 h2
theorem vK {N n:Nat} (h:n<=N) {x y:Tm (n+1)} {w w1 w2 w3:World} {q:Nat} (hr:ai ⟨n+1,x⟩) (hb:Below w.heap.size w w1) (hq:w.heap.size<=q) (hq1:q<w1.heap.size)
    (k:Below w1.heap.size w1 w2/\In w2.heap.size w2 (n+1) y/\Off (fun q=>w1.heap.size<=q) (n+1) y/\same (n+1) y (n+1) x=true) (hb3:Below w2.heap.size w2 w3) (r:Bool) (v0 v1 v2 v3:Value):
    jd (N+1) (if r then some (lift (N+1) (n+1) x)else none) w (.returned (.tuple #[.agg #[.int .i64 y.1.1,.int .i64 y.1.2.1,.string y.1.2.2,.slice y.2.1.1 y.2.2.length y.2.1.2],.bool r])) (bK w3 q 0 v0 v1 v2 v3):=by
 obtain⟨h1,h2,h3,h4⟩:=k
 have hs:=hb.size
 have hbb:=(hb.trans (h1.mono hs)).trans (hb3.mono (Nat.le_trans hs h1.size))
 refine Gx h hr (bL hbb hq _ _ _ _) ?_ (h3.mono fun b hh=>by omega) h4 r
 rw[aJ]
 exact In.off (P:=fun b=>w1.heap.size<=b) (fun b hh=>aA (by omega) _ _ _ _) h3 ((h2.below hb3).mono hb3.size)
theorem zo {w:World} {s0 s1:Value} {t1 t2:TypeId}:Below w.heap.size w ((w.alloc (.cells #[s0,s1] t1)).alloc (.cells #[.int .i64 0,.int .i64 0,.string .empty,.slice none 0 0] t2))/\Box0 (w.heap.size+1) ((w.alloc (.cells #[s0,s1] t1)).alloc (.cells #[.int .i64 0,.int .i64 0,.string .empty,.slice none 0 0] t2)):=by
 have h:=zI (w:=w) (s0:=s0) (s1:=s1) (t1:=t1) (t2:=t2) (w':=(w.alloc (.cells #[s0,s1] t1)).alloc (.cells #[.int .i64 0,.int .i64 0,.string .empty,.slice none 0 0] t2)) (World.grownBy.refl _ _)
 exact⟨h.1,h.2.2⟩
theorem yZ {w w1:World} {s0 s1:Value} {t1 t2:TypeId} (h:w1=(w.alloc (.cells #[s0,s1] t1)).alloc (.cells #[.int .i64 0,.int .i64 0,.string .empty,.slice none 0 0] t2)):Below w.heap.size w w1/\Box0 (w.heap.size+1) w1/\w1.cell? ⟨w.heap.size,0,none⟩=some s0/\w1.cell? ⟨w.heap.size,1,none⟩=some s1:=by
 subst h
 have h:=zI (w:=w) (s0:=s0) (s1:=s1) (t1:=t1) (t2:=t2) (w':=(w.alloc (.cells #[s0,s1] t1)).alloc (.cells #[.int .i64 0,.int .i64 0,.string .empty,.slice none 0 0] t2)) (World.grownBy.refl _ _)
 exact⟨h.1,h.2.2,h.2.1.1,h.2.1.2⟩
theorem Nz (N:Nat) (o:Option (Tm (N+1))) (a:Option Addr) (c:Nat) (self:Int) (hs:bR self) (pa:Option Addr) (len:Nat) (pc:Nat) (w:World)
    (HC1:Hid (∀w1,Below w.heap.size w w1->Calls Tryz.prog 143 #[.slice pa len pc,.string mH,.int .i64 0] w1 fun e w'=>e=.returned (.bool true)/\w'=w1))
    (HO:Hid (o=some (aF 3 self N))):
    Calls Tryz.prog 137 #[.agg #[.slice a 4 c,.int .i64 self],.slice pa len pc] w (jd (N+1) o w):=by
 go_enter Tryz.func137,Tryz.ntmps137
 go_wp2_with fail
 refine(HC1.out _ zo.1).mono ?_
 rintro e w1 ⟨rfl,hw⟩
 obtain⟨hb,hbx,s0,s1⟩:=yZ hw
 have HB:=hide hb
 have HBX:=hide hbx
 have hsw:w.heap.size<w1.heap.size:=by have:=hbx.2.2;omega
 clear hw hb hbx HC1
 obtain⟨⟨z0,z1,z2,z3⟩,⟨f0,f1,f2,f3⟩,hzq⟩:=HBX.out
 go_wp2_with fail
 rw[HO.out]
 exact bodyPost_ret (v:=.tuple #[.agg #[.int .i64 3,.int .i64 self,.string .empty,.slice none 0 0],.bool true]) (by simp[results,Tryz.results137,go_sem,z0,z1,z2,z3];rfl) rfl (xY (bL HB.out (by omega) _ _ _ _) 3 self (by simp[bR]) hs)
theorem OM (N:Nat) (o:Option (Tm (N+1))) (a:Option Addr) (c:Nat) (self:Int) (pb po:Nat) (x0 x1:Int) (x2:ByteArray) (xa:Option Addr) (xl xc:Nat) (y0 y1:Int) (y2:ByteArray) (ya:Option Addr) (yl yc:Nat) (pc:Nat) (w:World)
    (HC1:Hid (∀w1,Below w.heap.size w w1->Calls Tryz.prog 143 #[.slice (some ⟨pb,po,none⟩) 3 pc,.string mH,.int .i64 0] w1 fun e w'=>e=.returned (.bool false)/\w'=w1))
    (HC2:Hid (∀w1,Below w.heap.size w w1->Calls Tryz.prog 143 #[.slice (some ⟨pb,po,none⟩) 3 pc,.string qM,.int .i64 2] w1 fun e w'=>e=.returned (.bool true)/\w'=w1))
    (hpb:pb<w.heap.size)
    (cx:w.cell? ⟨pb,po+4,none⟩=some (.int .i64 x0)/\w.cell? ⟨pb,po+4+1,none⟩=some (.int .i64 x1)/\w.cell? ⟨pb,po+4+2,none⟩=some (.string x2)/\w.cell? ⟨pb,po+4+3,none⟩=some (.slice xa xl xc))
    (cy:w.cell? ⟨pb,po+8,none⟩=some (.int .i64 y0)/\w.cell? ⟨pb,po+8+1,none⟩=some (.int .i64 y1)/\w.cell? ⟨pb,po+8+2,none⟩=some (.string y2)/\w.cell? ⟨pb,po+8+3,none⟩=some (.slice ya yl yc))
    (HS:Hid (∀w1,Below w.heap.size w w1->Calls Tryz.prog 144 #[.agg #[.slice a 4 c,.int .i64 self],.agg #[.int .i64 x0,.int .i64 x1,.string x2,.slice xa xl xc],.agg #[.int .i64 y0,.int .i64 y1,.string y2,.slice ya yl yc]] w1 (jd (N+1) o w1))):
    Calls Tryz.prog 137 #[.agg #[.slice a 4 c,.int .i64 self],.slice (some ⟨pb,po,none⟩) 3 pc] w (jd (N+1) o w):=by
 go_enter Tryz.func137,Tryz.ntmps137
 go_wp2_with fail
 refine(HC1.out _ zo.1).mono ?_
 rintro e w1 ⟨rfl,hw⟩
 obtain⟨hb,hbx,s0,s1⟩:=yZ hw
 have HB:=hide hb
 have HBX:=hide hbx
 have hsw:w.heap.size<w1.heap.size:=by have:=hbx.2.2;omega
 clear hw hb hbx HC1
 have hcc:=af HB.out
 obtain⟨x0',x1',x2',x3'⟩:=cx
 obtain⟨y0',y1',y2',y3'⟩:=cy
 replace x0':=(hcc _ _ hpb).trans x0'
 replace x1':=(hcc _ _ hpb).trans x1'
 replace x2':=(hcc _ _ hpb).trans x2'
 replace x3':=(hcc _ _ hpb).trans x3'
 replace y0':=(hcc _ _ hpb).trans y0'
 replace y1':=(hcc _ _ hpb).trans y1'
 replace y2':=(hcc _ _ hpb).trans y2'
 replace y3':=(hcc _ _ hpb).trans y3'
 clear hcc
 go_wp2_with fail
 refine(HC2.out _ HB.out).mono ?_
 rintro e w2 ⟨rfl,rfl⟩
 have hpw:pb<w2.heap.size:=Nat.lt_of_lt_of_le hpb HB.out.size
 have hne1:¬(w.heap.size+1=pb):=by omega
 have hne2:¬(pb=w.heap.size+1):=by omega
 have e3:∀y:Tm (N+1),val (N+1) y=.agg #[.int .i64 y.1.1,.int .i64 y.1.2.1,.string y.1.2.2,.slice y.2.1.1 y.2.2.length y.2.1.2]:=fun _=>rfl
 go_wp2_with fail
 go_region_held3 (fun w'=>w'.cell? ⟨w.heap.size,0,none⟩=some (.slice a 4 c)/\w'.cell? ⟨w.heap.size,1,none⟩=some (.int .i64 self)/\w'.cell? ⟨pb,po+4,none⟩=some (.int .i64 x0)/\w'.cell? ⟨pb,po+4+1,none⟩=some (.int .i64 x1)/\w'.cell? ⟨pb,po+4+2,none⟩=some (.string x2)/\w'.cell? ⟨pb,po+4+3,none⟩=some (.slice xa xl xc)
     /\w'.cell? ⟨pb,po+8,none⟩=some (.int .i64 y0)/\w'.cell? ⟨pb,po+8+1,none⟩=some (.int .i64 y1)/\w'.cell? ⟨pb,po+8+2,none⟩=some (.string y2)/\w'.cell? ⟨pb,po+8+3,none⟩=some (.slice ya yl yc))
  (go_keep) ((go_at_call 144;refine(HS.out _ HB.out.drew).mono ?_;rintro e w3 ⟨y,r,rfl,H⟩;rw[e3];have hcc:=af (bz H.out.1);have HBX3:=hide (HBX.out.below (bz H.out.1));obtain⟨⟨z0,z1,z2,z3⟩,⟨f0,f1,f2,f3⟩,hzq⟩:=HBX3.out))
 have HV:=fun v0 v1 v2 v3=>hide (uQ HB.out.drew (Nat.le_add_right _ 1) HBX.out.2.2 H.out v0 v1 v2 v3)
 clear H hcc
 go_wp2_with fail
 exact bodyPost_ret (v:=.tuple #[.agg #[.int .i64 y.1.1,.int .i64 y.1.2.1,.string y.1.2.2,.slice y.2.1.1 y.2.2.length y.2.1.2],.bool r]) (by simp[results,Tryz.results137,go_sem,z0,z1,z2,z3]) rfl (HV _ _ _ _).out
theorem Pt (N:Nat) (o:Option (Tm (N+1))) (a:Option Addr) (c:Nat) (self:Int) (pb po:Nat) (n:Nat) (hn:n<=N) (x:Tm (n+1)) (cl:Bool) (pc:Nat) (w:World)
    (HC1:Hid (∀w1,Below w.heap.size w w1->Calls Tryz.prog 143 #[.slice (some ⟨pb,po,none⟩) 2 pc,.string mH,.int .i64 0] w1 fun e w'=>e=.returned (.bool false)/\w'=w1))
    (HC2:Hid (∀w1,Below w.heap.size w w1->Calls Tryz.prog 143 #[.slice (some ⟨pb,po,none⟩) 2 pc,.string qM,.int .i64 2] w1 fun e w'=>e=.returned (.bool false)/\w'=w1))
    (HC3:Hid (∀w1,Below w.heap.size w w1->Calls Tryz.prog 143 #[.slice (some ⟨pb,po,none⟩) 2 pc,.string rJ,.int .i64 1] w1 fun e w'=>e=.returned (.bool true)/\w'=w1))
    (hpb:pb<w.heap.size) (hx:Held w pb (po+4) (n+1) x) (HR:Hid (ai ⟨n+1,x⟩))
    (HP:Hid (∀w1,Below w.heap.size w w1->Calls Tryz.prog 45 #[.agg #[.int .i64 x.1.1,.int .i64 x.1.2.1,.string x.1.2.2,.slice x.2.1.1 x.2.2.length x.2.1.2]] w1 fun e w'=>∃y:Tm (n+1),e=.returned (val (n+1) y)/\Hid (Below w1.heap.size w1 w'/\In w'.heap.size w' (n+1) y/\Off (fun q=>w1.heap.size<=q) (n+1) y/\same (n+1) y (n+1) x=true)))
    (HL:Hid (∀w1,Below w.heap.size w w1->Calls Tryz.prog 43 #[.agg #[.int .i64 x.1.1,.int .i64 x.1.2.1,.string x.1.2.2,.slice x.2.1.1 x.2.2.length x.2.1.2]] w1 fun e w'=>e=.returned (.bool cl)/\Below w1.heap.size w1 w'))
    (HO:Hid (o=if cl then some (lift (N+1) (n+1) x)else none)):
    Calls Tryz.prog 137 #[.agg #[.slice a 4 c,.int .i64 self],.slice (some ⟨pb,po,none⟩) 2 pc] w (jd (N+1) o w):=by
 go_enter Tryz.func137,Tryz.ntmps137
 go_wp2_with fail
 refine(HC1.out _ zo.1).mono ?_
 rintro e w1 ⟨rfl,hw⟩
 obtain⟨hb,hbx,s0,s1⟩:=yZ hw
 have HB:=hide hb
 have HBX:=hide hbx
 have hsw:w.heap.size<w1.heap.size:=by have:=hbx.2.2;omega
 clear hw hb hbx HC1
 have hcc:=af HB.out
 obtain⟨x0',x1',x2',x3'⟩:=hx
 replace x0':=(hcc _ _ hpb).trans x0'
 replace x1':=(hcc _ _ hpb).trans x1'
 replace x2':=(hcc _ _ hpb).trans x2'
 replace x3':=(hcc _ _ hpb).trans x3'
 clear hcc
 generalize x.2.2.length=xl at*
 go_wp2_with fail
 refine(HC2.out _ HB.out).mono ?_
 rintro e w2 ⟨rfl,rfl⟩
 go_wp2_with fail
 refine(HC3.out _ HB.out).mono ?_
 rintro e w2 ⟨rfl,rfl⟩
 have hpw:pb<w2.heap.size:=Nat.lt_of_lt_of_le hpb HB.out.size
 have hne1:¬(w.heap.size+1=pb):=by omega
 have hne2:¬(pb=w.heap.size+1):=by omega
 have e3:∀y:Tm (n+1),val (n+1) y=.agg #[.int .i64 y.1.1,.int .i64 y.1.2.1,.string y.1.2.2,.slice y.2.1.1 y.2.2.length y.2.1.2]:=fun _=>rfl
 go_wp2_with fail
 go_region_held3 (fun w'=>w'.cell? ⟨pb,po+4,none⟩=some (.int .i64 x.1.1)/\w'.cell? ⟨pb,po+4+1,none⟩=some (.int .i64 x.1.2.1)/\w'.cell? ⟨pb,po+4+2,none⟩=some (.string x.1.2.2)/\w'.cell? ⟨pb,po+4+3,none⟩=some (.slice x.2.1.1 xl x.2.1.2))
  (go_keep) ((first|(go_at_call 45;refine(HP.out _ HB.out.drew).mono ?_;rintro e w3 ⟨y,rfl,H⟩;rw[e3];have hcc:=af (bz H.out.1);have HB3:Hid (Below w.heap.size w w3):=(HB.out.drew).trans (H.out.1.mono HB.out.size))|(go_at_call 43;refine(HL.out _ HB3.out).mono ?_;rintro e w4 ⟨rfl,hb4⟩;have hcc4:=af hb4;have hpw3:pb<w3.heap.size:=Nat.lt_of_lt_of_le hpb HB3.out.size;have HBX3:=hide ((HBX.out.below (bz H.out.1)).below hb4);obtain⟨⟨z0,z1,z2,z3⟩,⟨f0,f1,f2,f3⟩,hzq⟩:=HBX3.out)))
 have HV:=fun v0 v1 v2 v3=>hide (vK hn HR.out HB.out.drew (Nat.le_add_right _ 1) HBX.out.2.2 H.out hb4 cl v0 v1 v2 v3)
 clear H hcc hcc4 hb4
 go_wp2_with fail
 rw[HO.out]
 exact bodyPost_ret (v:=.tuple #[.agg #[.int .i64 y.1.1,.int .i64 y.1.2.1,.string y.1.2.2,.slice y.2.1.1 y.2.2.length y.2.1.2],.bool cl]) (by simp[results,Tryz.results137,go_sem,z0,z1,z2,z3]) rfl (HV _ _ _ _).out
theorem ML (N:Nat) (o:Option (Tm (N+1))) (a:Option Addr) (c:Nat) (self:Int) (pa:Option Addr) (len:Nat) (pc:Nat) (w:World)
    (HC1:Hid (∀w1,Below w.heap.size w w1->Calls Tryz.prog 143 #[.slice pa len pc,.string mH,.int .i64 0] w1 fun e w'=>e=.returned (.bool false)/\w'=w1))
    (HC2:Hid (∀w1,Below w.heap.size w w1->Calls Tryz.prog 143 #[.slice pa len pc,.string qM,.int .i64 2] w1 fun e w'=>e=.returned (.bool false)/\w'=w1))
    (HC3:Hid (∀w1,Below w.heap.size w w1->Calls Tryz.prog 143 #[.slice pa len pc,.string rJ,.int .i64 1] w1 fun e w'=>e=.returned (.bool false)/\w'=w1))
    (HT:Hid (∀w1,Below w.heap.size w w1->Calls Tryz.prog 145 #[.agg #[.slice a 4 c,.int .i64 self],.slice pa len pc] w1 (jd (N+1) o w1))):
    Calls Tryz.prog 137 #[.agg #[.slice a 4 c,.int .i64 self],.slice pa len pc] w (jd (N+1) o w):=by
 go_enter Tryz.func137,Tryz.ntmps137
 go_wp2_with fail
 refine(HC1.out _ zo.1).mono ?_
 rintro e w1 ⟨rfl,hw⟩
 obtain⟨hb,hbx,s0,s1⟩:=yZ hw
 have HB:=hide hb
 have HBX:=hide hbx
 have hsw:w.heap.size<w1.heap.size:=by have:=hbx.2.2;omega
 clear hw hb hbx HC1
 go_wp2_with fail
 refine(HC2.out _ HB.out).mono ?_
 rintro e w2 ⟨rfl,rfl⟩
 go_wp2_with fail
 refine(HC3.out _ HB.out).mono ?_
 rintro e w2 ⟨rfl,rfl⟩
 go_wp2_with fail
 refine(HT.out _ HB.out).mono ?_
 rintro e w3 ⟨y,r,rfl,H⟩
 have HBX3:=hide (HBX.out.below H.out.1)
 have HV:=fun v0 v1 v2 v3=>hide (uQ HB.out (Nat.le_add_right _ 1) HBX.out.2.2 H.out v0 v1 v2 v3)
 obtain⟨⟨z0,z1,z2,z3⟩,⟨f0,f1,f2,f3⟩,hzq⟩:=HBX3.out
 have e3:val (N+1) y=.agg #[.int .i64 y.1.1,.int .i64 y.1.2.1,.string y.1.2.2,.slice y.2.1.1 y.2.2.length y.2.1.2]:=rfl
 rw[e3]
 clear H HT HC2 HC3 e3
 go_wp2_with fail
 exact bodyPost_ret (v:=.tuple #[.agg #[.int .i64 y.1.1,.int .i64 y.1.2.1,.string y.1.2.2,.slice y.2.1.1 y.2.2.length y.2.1.2],.bool r]) (by simp[results,Tryz.results137,go_sem,z0,z1,z2,z3]) rfl (HV _ _ _ _).out
theorem fZ (w:World) (s0 s1 x0 x1 x2 x3:Value) (t1 t2 t3:TypeId):Below w.heap.size w (((w.alloc (.cells #[s0,s1] t1)).alloc (.cells #[x0,x1,x2,x3] t2)).alloc (.cells #[.int .i64 0,.int .i64 0,.string .empty,.slice none 0 0] t3))/\
    Box0 (w.heap.size+1+1) (((w.alloc (.cells #[s0,s1] t1)).alloc (.cells #[x0,x1,x2,x3] t2)).alloc (.cells #[.int .i64 0,.int .i64 0,.string .empty,.slice none 0 0] t3)):=by
 refine⟨(((Below.refl _ _).alloc (Nat.le_refl _) _).alloc (by simp) _).alloc (by simp;omega) _,⟨?_, ?_, ?_, ?_⟩,⟨?_, ?_, ?_, ?_⟩, ?_⟩<;>simp[go_sem]
theorem NM {w W:World} {s0 s1 x0 x1 x2 x3 y0 y1 y2 y3:Value} {t1 t2 t3 t4:TypeId} (h:(((w.alloc (.cells #[s0,s1] t1)).alloc (.cells #[x0,x1,x2,x3] t2)).alloc (.cells #[.int .i64 0,.int .i64 0,.string .empty,.slice none 0 0] t3)).alloc (.cells #[y0,y1,y2,y3] t4)=W):Below w.heap.size w W/\Box0 (w.heap.size+1+1) W/\
    (W.cell? ⟨w.heap.size+1+1+1,0,none⟩=some y0/\W.cell? ⟨w.heap.size+1+1+1,1,none⟩=some y1/\W.cell? ⟨w.heap.size+1+1+1,2,none⟩=some y2/\W.cell? ⟨w.heap.size+1+1+1,3,none⟩=some y3)/\w.heap.size+1+1+1<W.heap.size:=by
 subst h
 refine⟨kR _ _ _ _ _,⟨⟨?_, ?_, ?_, ?_⟩,⟨?_, ?_, ?_, ?_⟩, ?_⟩,⟨?_, ?_, ?_, ?_⟩, ?_⟩<;>simp[go_sem]
theorem P5 (N:Nat) (o:Option (Tm (N+1))) (a:Option Addr) (x1:Int) (x2:ByteArray) (xa:Option Addr) (xl xc:Nat) (c:Nat) (self:Int) (w:World)
    (HO:Hid (o=none)):
    Calls Tryz.prog 127 #[.agg #[.slice a 4 c,.int .i64 self],.agg #[.int .i64 6,.int .i64 x1,.string x2,.slice xa xl xc]] w (jd (N+1) o w):=by
 go_enter Tryz.func127,Tryz.ntmps127
 go_wp2_with fail
 rw[HO.out]
 exact bodyPost_ret (v:=.tuple #[.agg #[.int .i64 0,.int .i64 0,.string .empty,.slice none 0 0],.bool false]) (by simp[results,Tryz.results127,go_sem];rfl) rfl (jl (fZ w _ _ _ _ _ _ _ _ _).1)
theorem Qn (N:Nat) (o:Option (Tm (N+1))) (a:Option Addr) (x1:Int) (x2:ByteArray) (xa:Option Addr) (xl xc:Nat) (c:Nat) (self:Int) (w:World)
    (HT:Hid (∀w1,Below w.heap.size w w1->Calls Tryz.prog 137 #[.agg #[.slice a 4 c,.int .i64 self],.slice xa xl xc] w1 (jd (N+1) o w1))):
    Calls Tryz.prog 127 #[.agg #[.slice a 4 c,.int .i64 self],.agg #[.int .i64 4,.int .i64 x1,.string x2,.slice xa xl xc]] w (jd (N+1) o w):=by
 go_enter Tryz.func127,Tryz.ntmps127
 go_wp2_with fail
 refine(HT.out _ (fZ w _ _ _ _ _ _ _ _ _).1).mono ?_
 rintro e w3 ⟨y,r,rfl,H⟩
 have HBX3:=hide ((fZ w _ _ _ _ _ _ _ _ _).2.below H.out.1)
 have HV:=fun v0 v1 v2 v3=>hide (uQ (fZ w _ _ _ _ _ _ _ _ _).1 (Nat.le_add_right w.heap.size 2) (fZ w _ _ _ _ _ _ _ _ _).2.2.2 H.out v0 v1 v2 v3)
 obtain⟨⟨z0,z1,z2,z3⟩,⟨f0,f1,f2,f3⟩,hzq⟩:=HBX3.out
 have e3:val (N+1) y=.agg #[.int .i64 y.1.1,.int .i64 y.1.2.1,.string y.1.2.2,.slice y.2.1.1 y.2.2.length y.2.1.2]:=rfl
 rw[e3]
 clear H HT e3
 go_wp2_with fail
 exact bodyPost_ret (v:=.tuple #[.agg #[.int .i64 y.1.1,.int .i64 y.1.2.1,.string y.1.2.2,.slice y.2.1.1 y.2.2.length y.2.1.2],.bool r]) (by simp[results,Tryz.results127,go_sem,z0,z1,z2,z3]) rfl (HV _ _ _ _).out
theorem O0 (N:Nat) (o:Option (Tm (N+1))) (a:Option Addr) (x0:Int) (x1:Int) (x2:ByteArray) (xa:Option Addr) (xl xc:Nat) (n:Nat) (hn:n<=N) (x:Tm (n+1)) (c:Nat) (self:Int) (w:World)
    (h4:¬x0=4) (h5:¬x0=5) (h6:¬x0=6) (HR:Hid (ai ⟨n+1,x⟩))
    (HP:Hid (∀w1,Below w.heap.size w w1->Calls Tryz.prog 45 #[.agg #[.int .i64 x0,.int .i64 x1,.string x2,.slice xa xl xc]] w1 fun e w'=>∃y:Tm (n+1),e=.returned (val (n+1) y)/\Hid (Below w1.heap.size w1 w'/\In w'.heap.size w' (n+1) y/\Off (fun q=>w1.heap.size<=q) (n+1) y/\same (n+1) y (n+1) x=true))) (HO:Hid (o=some (lift (N+1) (n+1) x))):
    Calls Tryz.prog 127 #[.agg #[.slice a 4 c,.int .i64 self],.agg #[.int .i64 x0,.int .i64 x1,.string x2,.slice xa xl xc]] w (jd (N+1) o w):=by
 go_enter Tryz.func127,Tryz.ntmps127
 go_wp2_with fail
 refine(HP.out _ (fZ w _ _ _ _ _ _ _ _ _).1).mono ?_
 rintro e w3 ⟨y,rfl,H⟩
 have HBX3:=hide ((fZ w _ _ _ _ _ _ _ _ _).2.below H.out.1)
 have HV:=fun v0 v1 v2 v3=>hide (vK hn HR.out (fZ w _ _ _ _ _ _ _ _ _).1 (Nat.le_add_right w.heap.size 2) (fZ w _ _ _ _ _ _ _ _ _).2.2.2 H.out (Below.refl _ _) true v0 v1 v2 v3)
 obtain⟨⟨z0,z1,z2,z3⟩,⟨f0,f1,f2,f3⟩,hzq⟩:=HBX3.out
 have e3:val (n+1) y=.agg #[.int .i64 y.1.1,.int .i64 y.1.2.1,.string y.1.2.2,.slice y.2.1.1 y.2.2.length y.2.1.2]:=rfl
 rw[e3]
 clear H HP e3
 go_wp2_with fail
 rw[HO.out]
 exact bodyPost_ret (v:=.tuple #[.agg #[.int .i64 y.1.1,.int .i64 y.1.2.1,.string y.1.2.2,.slice y.2.1.1 y.2.2.length y.2.1.2],.bool true]) (by simp[results,Tryz.results127,go_sem,z0,z1,z2,z3]) rfl (HV _ _ _ _).out
theorem Qk (N:Nat) (o:Option (Tm (N+1))) (bb bo:Nat) (k:Nat) (x1:Int) (x2:ByteArray) (xa:Option Addr) (xl xc:Nat) (n:Nat) (hn:n<=N) (x:Tm (n+1)) (c:Nat) (self:Int) (w:World)
    (h1:x1=(k:Int)) (hk:k<4) (hbb:bb<w.heap.size) (hx:Held w bb (bo+k*4) (n+1) x) (HR:Hid (ai ⟨n+1,x⟩))
    (HP:Hid (∀w1,Below w.heap.size w w1->Calls Tryz.prog 45 #[.agg #[.int .i64 x.1.1,.int .i64 x.1.2.1,.string x.1.2.2,.slice x.2.1.1 x.2.2.length x.2.1.2]] w1 fun e w'=>∃y:Tm (n+1),e=.returned (val (n+1) y)/\Hid (Below w1.heap.size w1 w'/\In w'.heap.size w' (n+1) y/\Off (fun q=>w1.heap.size<=q) (n+1) y/\same (n+1) y (n+1) x=true)))
    (HI:Hid (∀w1,Calls Tryz.prog 132 #[.agg #[.int .i64 x.1.1,.int .i64 x.1.2.1,.string x.1.2.2,.slice x.2.1.1 x.2.2.length x.2.1.2]] w1 fun e w'=>e=.returned (.bool (!(x.1.1==6)))/\Below w1.heap.size w1 w'))
    (HO:Hid (o=if (!(x.1.1==6))=true then some (lift (N+1) (n+1) x)else none)):
    Calls Tryz.prog 127 #[.agg #[.slice (some ⟨bb,bo,none⟩) 4 c,.int .i64 self],.agg #[.int .i64 5,.int .i64 x1,.string x2,.slice xa xl xc]] w (jd (N+1) o w):=by
 go_enter Tryz.func127,Tryz.ntmps127
 obtain⟨x0',x1',x2',x3'⟩:=hx
 subst h1
 generalize x.2.2.length=xxl at*
 generalize (!(x.1.1==6))=cl at*
 have hk1:(0:Int)<=(k:Int):=by omega
 have hk2:(k:Int)<4:=by omega
 have hb1:bb<w.heap.size+1:=by omega
 have hb2:bb<w.heap.size+1+1:=by omega
 go_wp2_with fail
 generalize hW:World.alloc (World.alloc (World.alloc (World.alloc w _) _) _) _=W
 obtain⟨hBW,hBX,⟨b0,b1,b2,b3⟩,hWs⟩:=NM hW
 have HB:=hide hBW
 have HBX:=hide hBX
 clear hW hBW hBX x0' x1' x2' x3'
 have e3:∀y:Tm (n+1),val (n+1) y=.agg #[.int .i64 y.1.1,.int .i64 y.1.2.1,.string y.1.2.2,.slice y.2.1.1 y.2.2.length y.2.1.2]:=fun _=>rfl
 go_region_held3 (fun w'=>w'.cell? ⟨w.heap.size+1+1+1,0,none⟩=some (.int .i64 x.1.1)/\w'.cell? ⟨w.heap.size+1+1+1,1,none⟩=some (.int .i64 x.1.2.1)/\w'.cell? ⟨w.heap.size+1+1+1,2,none⟩=some (.string x.1.2.2)/\w'.cell? ⟨w.heap.size+1+1+1,3,none⟩=some (.slice x.2.1.1 xxl x.2.1.2))
  (go_keep) ((first|(go_at_call 45;refine(HP.out _ HB.out.drew).mono ?_;rintro e w3 ⟨y,rfl,H⟩;rw[e3];have hcc:=af (bz H.out.1);have HB3:Hid (Below w.heap.size w w3):=(HB.out.drew).trans (H.out.1.mono HB.out.size);have hw3:w.heap.size+1+1+1<w3.heap.size:=Nat.lt_of_lt_of_le hWs H.out.1.size)|(go_at_call 132;refine(HI.out _).mono ?_;rintro e w4 ⟨rfl,hb4⟩;have hcc4:=af hb4;have HBX3:=hide ((HBX.out.below (bz H.out.1)).below hb4);obtain⟨⟨z0,z1,z2,z3⟩,⟨f0,f1,f2,f3⟩,hzq⟩:=HBX3.out)))
 have HV:=fun v0 v1 v2 v3=>hide (vK hn HR.out HB.out.drew (Nat.le_add_right w.heap.size 2) HBX.out.2.2 H.out hb4 cl v0 v1 v2 v3)
 clear H hcc hcc4 hb4
 go_wp2_with fail
 rw[HO.out]
 exact bodyPost_ret (v:=.tuple #[.agg #[.int .i64 y.1.1,.int .i64 y.1.2.1,.string y.1.2.2,.slice y.2.1.1 y.2.2.length y.2.1.2],.bool cl]) (by simp[results,Tryz.results127,go_sem,z0,z1,z2,z3]) rfl (HV _ _ _ _).out
def wW (m n:Nat) (self:Int) (f:Tm n->Option (Tm (m+n))) (p:List (Tm n)):Option (Tm (m+n+1)):=
 if tq n p mH 0 then some (aF 3 self (m+n))
 else if tq n p qM 2 then (p[1]?).bind fun a=>(p[2]?).bind fun c=>(f a).bind fun a=>(f c).bind fun c=>tX (m+n) a c
 else if tq n p rJ 1 then (p[1]?).bind fun a=>if av n a then some (lift (m+n+1) n a)else none
 else (bF f p).map (bH (m+n))
theorem Kt (m:Nat) (b:List (Tm m)) (self:Int) (n:Nat) (x:Tm (n+1)) (h:x.1.1=4):vl m b self (n+1) x=wW m n self (fun y=>vl m b self n y) x.2.2:=by simp[vl,h,wW]
theorem LP (m:Nat) (b:List (Tm m)) (self:Int) (n:Nat) (x:Tm (n+1)) (h:x.1.1=6):vl m b self (n+1) x=none:=by simp[vl,h]
theorem F8 (m:Nat) (b:List (Tm m)) (self:Int) (n:Nat) (x:Tm (n+1)) (h4:x.1.1≠4) (h5:x.1.1≠5) (h6:x.1.1≠6):vl m b self (n+1) x=some (lift (m+n+1) (n+1) x):=by simp[vl,h4,h5,h6]
theorem Pw (m:Nat) (b:List (Tm m)) (self:Int) (n:Nat) (x:Tm (n+1)) (y:Tm m) (k:Nat) (h:x.1.1=5) (hk:x.1.2.1=(k:Int)) (hy:b[k]? =some y):vl m b self (n+1) x=if aU ⟨m,y⟩=6 then none else some (lift (m+n+1) m y):=by
 simp[vl,h,hk,hy]
theorem CY {n:Nat} {p:List (Tm n)} {s:ByteArray} {k:Nat} (h:tq n p s k=true):p.length=1+k:=by
 by_cases hl:p.length=1+k
 ·exact hl
 ·rw[Gi hl]at h;cases h
theorem Kv {N:Nat} {o:Option (Tm N)} (h:∀z,o=some z->ai ⟨N,z⟩):Qt o:=by
 intro z hz hk
 have hr:=h z hz
 cases N with
 | zero=>exact(bQ hr).elim
 | succ N=>
  have hg:=hr (aL N z) (by simp[nodes,aL])
  have hk':z.1.1=1:=hk
  simp only[good,aL,hk',kr,Bool.and_eq_true,if_true]at hg
  exact⟨of_decide_eq_true hg.1.2.1,of_decide_eq_true hg.1.2.2⟩
theorem DV (m:Nat) (b:List (Tm m)) (self:Int) (hbd:eX m b=true) (hs:1<=self/\self<=99) (n:Nat) (ih:PR m b self n) (p:List (Tm n)) (pa:Option Addr) (pc:Nat) (a:Option Addr) (c B:Nat) (w:World)
    (hlen:p.length<=8) (hp:Lies B w n p pa) (hrp:∀y∈p,ai ⟨n,y⟩) (hb:Lies B w m b a) (hB:B<=w.heap.size):
    Calls Tryz.prog 137 #[.agg #[.slice a 4 c,.int .i64 self],.slice pa p.length pc] w (jd (m+n+1) (wW m n self (fun y=>vl m b self n y) p) w):=by
 have hi:=fun s k (hk:k<=8) w1 (h1:Below w.heap.size w w1)=>E8 n p pa pc B s k w1 (hp.below (h1.mono hB)) hlen hk
 have hi1:=hi mH 0 (by omega)
 have hi2:=hi qM 2 (by omega)
 have hi3:=hi rJ 1 (by omega)
 have hbr:∀y∈b,ai ⟨m,y⟩:=fun y hy=>((fT hbd).2 y hy).2.1
 cases e1:tq n p mH 0
 ·rw[e1]at hi1
  cases e2:tq n p qM 2
  ·rw[e2]at hi2
   cases e3:tq n p rJ 1
   ·rw[e3]at hi3
    refine ML (m+n) _ a c self pa p.length pc w hi1 hi2 hi3 ?_
    intro w1 h1
    have hh:=Bv m b self n ih p p.length rfl pa pc a c B w1 hlen (hp.below (h1.mono hB)) hrp (hb.below (h1.mono hB)) (Nat.le_trans hB h1.size)
    simpa [wW,e1,e2,e3]using hh
   ·rw[e3]at hi3
    have hl:=CY e3
    rcases hp with hp|⟨pb,po,rfl,hpb,hp⟩
    ·rw[hp]at hl;simp at hl
    ·obtain⟨y,hy⟩:∃y,p[1]? =some y:=⟨p[1]'(by omega),List.getElem?_eq_getElem _⟩
     obtain⟨hy1,hy2⟩:=hp 1 y hy
     have hry:=hrp y (List.mem_of_getElem? hy)
     have eo:wW m n self (fun y=>vl m b self n y) p=if av n y=true then some (lift (m+n+1) n y)else none:=by simp[wW,e1,e2,e3,hy]
     rw[eo]
     cases n with
     | zero=>exact hy1.elim
     | succ n=>
     rw[show p.length=2 by omega]at hi1 hi2 hi3 ⊢
     refine Pt (m+(n+1)) _ a c self pb po n (by omega) y (av (n+1) y) pc w hi1 hi2 hi3 (by omega) (by simpa using hy1) hry ?_ ?_ rfl
     ·intro w1 h1
      exact fV (n+1) y B w1 (hy2.below (h1.mono hB)) (Nat.le_trans hB h1.size) hry
     ·intro w1 h1
      exact gN (n+1) y B w1 (hy2.below (h1.mono hB)) (Nat.le_trans hB h1.size)
  ·rw[e2]at hi2
   have hl:=CY e2
   rcases hp with hp|⟨pb,po,rfl,hpb,hp⟩
   ·rw[hp]at hl;simp at hl
   ·obtain⟨x,hx⟩:∃x,p[1]? =some x:=⟨p[1]'(by omega),List.getElem?_eq_getElem _⟩
    obtain⟨y,hy⟩:∃y,p[2]? =some y:=⟨p[2]'(by omega),List.getElem?_eq_getElem _⟩
    obtain⟨hx1,hx2⟩:=hp 1 x hx
    obtain⟨hy1,hy2⟩:=hp 2 y hy
    have hrx:=hrp x (List.mem_of_getElem? hx)
    have hry:=hrp y (List.mem_of_getElem? hy)
    have eo:wW m n self (fun y=>vl m b self n y) p=xe (vl m b self n x) (vl m b self n y):=by simp[wW,e1,e2,hx,hy,xe]
    rw[eo]
    have lx:=Kv fun z hz=>vN m b self hs hbr n x hrx z hz
    have ly:=Kv fun z hz=>vN m b self hs hbr n y hry z hz
    cases n with
    | zero=>exact hy1.elim
    | succ n=>
    rw[show p.length=3 by omega]at hi1 hi2 ⊢
    refine OM (m+(n+1)) _ a c self pb po x.1.1 x.1.2.1 x.1.2.2 x.2.1.1 x.2.2.length x.2.1.2 y.1.1 y.1.2.1 y.1.2.2 y.2.1.1 y.2.2.length y.2.1.2 pc w hi1 hi2 (by omega) (by simpa [Held]using hx1) (by simpa [Held]using hy1) ?_
    intro w1 h1
    refine Me (m+(n+1)) _ _ lx ly a c self x.1.1 x.1.2.1 x.1.2.2 x.2.1.1 x.2.2.length x.2.1.2 y.1.1 y.1.2.1 y.1.2.2 y.2.1.1 y.2.2.length y.2.1.2 w1 ?_ ?_
    ·intro w2 h2
     refine sK (m+n) _ a c self x.1.1 x.1.2.1 x.1.2.2 x.2.1.1 x.2.2.length x.2.1.2 w2 ?_
     intro w3 h3
     have h13:=(h1.trans ((h2.trans (h3.mono h2.size)).mono h1.size))
     exact ih x a c B w3 (hx2.below (h13.mono hB)) hrx (hb.below (h13.mono hB)) (Nat.le_trans hB h13.size)
    ·intro w2 h2
     refine sK (m+n) _ a c self y.1.1 y.1.2.1 y.1.2.2 y.2.1.1 y.2.2.length y.2.1.2 w2 ?_
     intro w3 h3
     have h13:=(h1.trans ((h2.trans (h3.mono h2.size)).mono h1.size))
     exact ih y a c B w3 (hy2.below (h13.mono hB)) hry (hb.below (h13.mono hB)) (Nat.le_trans hB h13.size)
 ·rw[e1]at hi1
  exact Nz (m+n) _ a c self ⟨by omega,by omega⟩ pa p.length pc w hi1 (by simp[Hid,wW,e1])
theorem Jj (m:Nat) (b:List (Tm m)) (self:Int) (hbd:eX m b=true) (hs:1<=self/\self<=99) (n:Nat):PR m b self n:=by
 induction n with
 | zero=>intro x a c B w hx;exact hx.elim
 | succ n ih=>
  intro x a c B w hx hr hb hB
  obtain⟨h4b,hbk⟩:=fT hbd
  have hg:=hr (aL n x) (by simp[nodes,aL])
  have hlen:x.2.2.length<=8:=ky (aL n x) hg
  by_cases h6:x.1.1=6
  ·have hh:=P5 (m+n) (vl m b self (n+1) x) a x.1.2.1 x.1.2.2 x.2.1.1 x.2.2.length x.2.1.2 c self w (LP m b self n x h6)
   rw[<-h6]at hh
   exact hh
  ·by_cases h5:x.1.1=5
   ·have hn:0<=x.1.2.1/\x.1.2.1<=3:=by
      have h51:¬(5:Int)=1:=by decide
      have h52:¬(5:Int)=2:=by decide
      have h53:¬(5:Int)=3:=by decide
      have h54:¬(5:Int)=4:=by decide
      simp only[good,aL,h5,kr,Bool.and_eq_true,if_true,h51,h52,h53,h54,if_false]at hg
      exact⟨of_decide_eq_true hg.1.2.1,of_decide_eq_true hg.1.2.2⟩
    obtain⟨k,hk⟩:∃k:Nat,x.1.2.1=(k:Int):=⟨x.1.2.1.toNat,by omega⟩
    obtain⟨y,hy⟩:∃y,b[k]? =some y:=⟨b[k]'(by omega),List.getElem?_eq_getElem _⟩
    have hry:=(hbk y (List.mem_of_getElem? hy)).2.1
    have eo:=Pw m b self n x y k h5 hk hy
    have hb':=hb
    rcases hb with hb|⟨bb,bo,rfl,hbb,hb⟩
    ·rw[hb]at h4b;simp at h4b
    ·obtain⟨hy1,hy2⟩:=hb k y hy
     cases m with
     | zero=>exact(bQ hry).elim
     | succ m=>
     have hh:=Qk (m+1+n) (vl (m+1) b self (n+1) x) bb bo k x.1.2.1 x.1.2.2 x.2.1.1 x.2.2.length x.2.1.2 m (by omega) y c self w hk (by omega) (by omega) hy1 hry
      (fun w1 h1=>fV (m+1) y B w1 (hy2.below (h1.mono hB)) (Nat.le_trans hB h1.size) hry)
      (fun w1=>iq y.1.1 y.1.2.1 y.1.2.2 y.2.1.1 y.2.2.length y.2.1.2 w1)
      (by
       show vl (m+1) b self (n+1) x=_
       rw[eo]
       by_cases h:y.1.1=6
       ·simp[aU,h]
       ·simp[aU,h])
     rw[<-h5]at hh
     exact hh
   ·by_cases h4:x.1.1=4
    ·have hh:=Qn (m+n) (vl m b self (n+1) x) a x.1.2.1 x.1.2.2 x.2.1.1 x.2.2.length x.2.1.2 c self w (by
       intro w1 h1
       rw[Kt m b self n x h4]
       exact DV m b self hbd hs n ih x.2.2 x.2.1.1 x.2.1.2 a c B w1 hlen (Lies.below (h1.mono hB) hx.2) (fun y hy=>aH n x y hr hy) (hb.below (h1.mono hB)) (Nat.le_trans hB h1.size))
     rw[<-h4]at hh
     exact hh
    ·exact O0 (m+n) (vl m b self (n+1) x) a x.1.1 x.1.2.1 x.1.2.2 x.2.1.1 x.2.2.length x.2.1.2 n (by omega) x c self w h4 h5 h6 hr
       (fun w1 h1=>fV (n+1) x B w1 (hx.below (h1.mono hB)) (Nat.le_trans hB h1.size) hr) (F8 m b self n x h4 h5 h6)
def zeroV (N:Nat):Tm (N+1):=aF 0 0 N
def A9 (N:Nat) (E:Int) (o:Option (Tm (N+1))) (w:World) (e:Ending) (w':World):Prop:=
 ∃y:Tm (N+1),e=.returned (.tuple #[val (N+1) y,.int .i64 (Gd E (lS E o))])/\Hid (Below w.heap.size w w'/\In w'.heap.size w' (N+1) y/\Off (fun q=>w.heap.size<=q) (N+1) y/\same (N+1) y (N+1) ((lS E o).getD (zeroV N))=true)
theorem nC {N:Nat} {E:Int} {o:Option (Tm (N+1))} {w w':World} {u:Int} (hb:Below w.heap.size w w') (h:lS E o=none) (hu:u=Gd E (lS E o)):A9 N E o w (.returned (.tuple #[.agg #[.int .i64 0,.int .i64 0,.string .empty,.slice none 0 0],.int .i64 u])) w':=by
 refine⟨zeroV N,by rw[hu];rfl,hb,(jK N 0 0 iC iC _ _ (fun _=>True)).1,(jK N 0 0 iC iC 0 w _).2, ?_⟩
 rw[h]
 exact yC N 0 0
theorem M8 {N:Nat} {E:Int} {o:Option (Tm (N+1))} {z:Tm (N+1)} {w w1 w2 w3:World} {y:Tm (N+1)} {q:Nat} (hE:E=0) (ho:o=some z) (hc:aQ (N+1) z=0) (hb:Below w.heap.size w w1) (hq:w.heap.size<=q) (hq1:q<w1.heap.size)
    (k1:Below w1.heap.size w1 w2) (k2:In w2.heap.size w2 (N+1) y) (k3:Off (fun q=>w1.heap.size<=q) (N+1) y) (k4:same (N+1) y (N+1) z=true) (hb3:Below w2.heap.size w2 w3) (v0 v1 v2 v3:Value):
    A9 N E o w (.returned (.tuple #[.agg #[.int .i64 y.1.1,.int .i64 y.1.2.1,.string y.1.2.2,.slice y.2.1.1 y.2.2.length y.2.1.2],.int .i64 0])) (bK w3 q 0 v0 v1 v2 v3):=by
 have hs:=hb.size
 have hbb:=(hb.trans (k1.mono hs)).trans (hb3.mono (Nat.le_trans hs k1.size))
 have er:lS E o=some z:=by simp[lS,hE,ho,hc]
 refine⟨y,by rw[er];simp[Gd,hE,val],bL hbb hq _ _ _ _, ?_,k3.mono fun b hh=>by omega,by rw[er];exact k4⟩
 rw[aJ]
 exact In.off (P:=fun b=>w1.heap.size<=b) (fun b hh=>aA (by omega) _ _ _ _) k3 ((k2.below hb3).mono hb3.size)
theorem BP {ck:Int} {bd:Bool} {self:Int} (h:FN ck bd self=0):ck=0/\bd=true/\1<=self/\self<=99:=by
 unfold FN at h
 split at h
 ·split at h
  ·split at h
   ·rename_i h1 h2 h3
    exact⟨h1,h2,h3⟩
   ·cases h
  ·cases h
 ·rename_i h1
  exact absurd h h1
theorem Ik {m n:Nat} {b:List (Tm m)} {self:Int} {x:Tm (n+1)} {z:Tm (m+n+1)} (h1:aQ (n+1) x=0) (h2:eX m b=true) (hz:vl m b self (n+1) x=some z):(nodes (m+n+1) z).length<=2097152:=by
 have hx:=mg h1
 have hn:=Ct m b self 201 (by omega) (fun y hy=>mg ((fT h2).2 y hy).1) (n+1) x z hz
 have:201*(nodes (n+1) x).length<=201*201:=Nat.mul_le_mul_left 201 hx
 exact Nat.le_trans hn (by omega)
theorem ul (w:World) (x0 x1 x2 x3:Value) (t1 t2:TypeId):Below w.heap.size w ((w.alloc (.cells #[x0,x1,x2,x3] t1)).alloc (.cells #[.int .i64 0,.int .i64 0,.string .empty,.slice none 0 0] t2))/\Box0 (w.heap.size+1) ((w.alloc (.cells #[x0,x1,x2,x3] t1)).alloc (.cells #[.int .i64 0,.int .i64 0,.string .empty,.slice none 0 0] t2)):=by
 refine⟨((Below.refl _ _).alloc (Nat.le_refl _) _).alloc (by simp) _,⟨?_, ?_, ?_, ?_⟩,⟨?_, ?_, ?_, ?_⟩, ?_⟩<;>simp[go_sem]
theorem Eu {w w':World} {x0 x1 x2 x3 y0 y1 y2 y3:Value} {t1 t2:TypeId} (h:Below ((w.alloc (.cells #[x0,x1,x2,x3] t1)).alloc (.cells #[y0,y1,y2,y3] t2)).heap.size ((w.alloc (.cells #[x0,x1,x2,x3] t1)).alloc (.cells #[y0,y1,y2,y3] t2)) w'):
    w'.cell? ⟨w.heap.size,0,none⟩=some x0/\w'.cell? ⟨w.heap.size,1,none⟩=some x1/\w'.cell? ⟨w.heap.size,2,none⟩=some x2/\w'.cell? ⟨w.heap.size,3,none⟩=some x3:=by
 have hc:=fun o=>h.cell (p:=⟨w.heap.size,o,none⟩) (by simp;omega)
 exact⟨(hc 0).trans (by simp[go_sem]),(hc 1).trans (by simp[go_sem]),(hc 2).trans (by simp[go_sem]),(hc 3).trans (by simp[go_sem])⟩
theorem C8 (N:Nat) (o:Option (Tm (N+1))) (a:Option Addr) (ql c:Nat) (self:Int) (x0 x1:Int) (x2:ByteArray) (xa:Option Addr) (xl xc:Nat) (ck:Int) (bd:Bool) (w:World)
    (HK:Hid (∀w1,Below w.heap.size w w1->Calls Tryz.prog 42 #[.agg #[.int .i64 x0,.int .i64 x1,.string x2,.slice xa xl xc]] w1 fun e w'=>e=.returned (.int .i64 ck)/\Below w1.heap.size w1 w'))
    (HA:Hid (∀w1,Below w.heap.size w w1->Calls Tryz.prog 121 #[.slice a ql c] w1 fun e w'=>e=.returned (.bool bd)/\Below w1.heap.size w1 w'))
    (HV:Hid (FN ck bd self=0->∀w1,Below w.heap.size w w1->Calls Tryz.prog 127 #[.agg #[.slice a ql c,.int .i64 self],.agg #[.int .i64 x0,.int .i64 x1,.string x2,.slice xa xl xc]] w1 (jd (N+1) o w1)))
    (HZ:Hid (FN ck bd self=0->∀(y z:Tm (N+1)) (w1:World),o=some z->same (N+1) y (N+1) z=true->In w1.heap.size w1 (N+1) y->Calls Tryz.prog 42 #[.agg #[.int .i64 y.1.1,.int .i64 y.1.2.1,.string y.1.2.2,.slice y.2.1.1 y.2.2.length y.2.1.2]] w1 fun e w'=>e=.returned (.int .i64 (aQ (N+1) z))/\Below w1.heap.size w1 w')):
    Calls Tryz.prog 103 #[.agg #[.int .i64 x0,.int .i64 x1,.string x2,.slice xa xl xc],.slice a ql c,.int .i64 self] w (A9 N (FN ck bd self) o w):=by
 obtain⟨E,hE⟩:∃E,E=FN ck bd self:=⟨_,rfl⟩
 rw[<-hE]at HV HZ ⊢
 have HE:=hide hE
 clear hE
 go_enter Tryz.func103,Tryz.ntmps103
 go_wp2_with fail
 refine(HK.out _ (ul w _ _ _ _ _ _).1).mono ?_
 rintro e w1 ⟨rfl,hb1⟩
 have HX1:=hide (Eu hb1)
 have HB1:Hid (Below w.heap.size w w1):=(ul w _ _ _ _ _ _).1.trans (hb1.mono (ul w _ _ _ _ _ _).1.size)
 have HBX1:=hide ((ul w _ _ _ _ _ _).2.below hb1)
 clear hb1 HK
 by_cases hck:ck=0
 case neg=>
  have hc1:(ck !=0)=true:=by simpa using hck
  have HEN:Hid (E=ck/\ck≠0):=⟨by rw[HE.out];simp[FN,hck],hck⟩
  obtain⟨⟨z0,z1,z2,z3⟩,⟨f0,f1,f2,f3⟩,hzq⟩:=HBX1.out
  clear HV HE hck HZ
  go_wp2_with fail
  exact bodyPost_ret (v:=.tuple #[.agg #[.int .i64 0,.int .i64 0,.string .empty,.slice none 0 0],.int .i64 ck]) (by simp[results,Tryz.results103,go_sem,z0,z1,z2,z3];rfl) rfl (nC (bL HB1.out (by omega) _ _ _ _) (by simp[lS,HEN.out.1,HEN.out.2]) (by simp[Gd,HEN.out.1,HEN.out.2]))
 have hc1:(ck !=0)=false:=by simp[hck]
 go_wp2_with fail
 refine(HA.out _ HB1.out).mono ?_
 rintro e w2 ⟨rfl,hb2⟩
 have HX2:=hide (lU (Nat.lt_of_succ_lt HBX1.out.2.2) hb2 HX1.out)
 have HB2:Hid (Below w.heap.size w w2):=HB1.out.trans (hb2.mono HB1.out.size)
 have HBX2:=hide (HBX1.out.below hb2)
 clear hb2 HA HB1 HX1 HBX1
 cases bd
 ·have HEN:Hid (E=5):=by rw[Hid,HE.out];simp[FN,hck]
  obtain⟨⟨z0,z1,z2,z3⟩,⟨f0,f1,f2,f3⟩,hzq⟩:=HBX2.out
  clear HV HE hck HZ
  go_wp2_with fail
  exact bodyPost_ret (v:=.tuple #[.agg #[.int .i64 0,.int .i64 0,.string .empty,.slice none 0 0],.int .i64 5]) (by simp[results,Tryz.results103,go_sem,z0,z1,z2,z3];rfl) rfl (nC (bL HB2.out (by omega) _ _ _ _) (by simp[lS,HEN.out]) (by simp[Gd,HEN.out]))
 ·by_cases hs1:self<1
  ·have b1:decide (self<1)=true:=by simpa using hs1
   have HEN:Hid (E=1):=by rw[Hid,HE.out];simp only[FN,hck,if_true];rw[if_neg (by omega)]
   obtain⟨⟨z0,z1,z2,z3⟩,⟨f0,f1,f2,f3⟩,hzq⟩:=HBX2.out
   clear HV HE hck HZ
   go_wp2_with fail
   exact bodyPost_ret (v:=.tuple #[.agg #[.int .i64 0,.int .i64 0,.string .empty,.slice none 0 0],.int .i64 1]) (by simp[results,Tryz.results103,go_sem,z0,z1,z2,z3];rfl) rfl (nC (bL HB2.out (by omega) _ _ _ _) (by simp[lS,HEN.out]) (by simp[Gd,HEN.out]))
  ·have b1:decide (self<1)=false:=by simpa using hs1
   by_cases hs2:99<self
   ·have b2:decide (99<self)=true:=by simpa using hs2
    have HEN:Hid (E=1):=by rw[Hid,HE.out];simp only[FN,hck,if_true];rw[if_neg (by omega)]
    obtain⟨⟨z0,z1,z2,z3⟩,⟨f0,f1,f2,f3⟩,hzq⟩:=HBX2.out
    clear HV HE hck HZ
    go_wp2_with fail
    exact bodyPost_ret (v:=.tuple #[.agg #[.int .i64 0,.int .i64 0,.string .empty,.slice none 0 0],.int .i64 1]) (by simp[results,Tryz.results103,go_sem,z0,z1,z2,z3];rfl) rfl (nC (bL HB2.out (by omega) _ _ _ _) (by simp[lS,HEN.out]) (by simp[Gd,HEN.out]))
   ·have b2:decide (99<self)=false:=by simpa using hs2
    have HE0:Hid (E=0):=by rw[Hid,HE.out];simp only[FN,hck,if_true];rw[if_pos (by omega)]
    obtain⟨x0',x1',x2',x3'⟩:=HX2.out
    have hxw:w.heap.size<w2.heap.size:=Nat.lt_of_succ_lt HBX2.out.2.2
    clear HE hck
    go_wp2_with fail
    refine(HV.out HE0.out _ HB2.out).mono ?_
    rintro e w3 ⟨y,r,rfl,H⟩
    have HB3:Hid (Below w.heap.size w w3):=HB2.out.trans (H.out.1.mono HB2.out.size)
    have HBX3:=hide (HBX2.out.below H.out.1)
    have e3:val (N+1) y=.agg #[.int .i64 y.1.1,.int .i64 y.1.2.1,.string y.1.2.2,.slice y.2.1.1 y.2.2.length y.2.1.2]:=rfl
    rw[e3]
    clear HV e3 x0' x1' x2' x3' HX2
    cases r
    ·have HN:Hid (o=none):=by
       have:=H.out.2.2.2.1
       cases o with
       | none=>rfl
       | some z=>cases this
     obtain⟨⟨z0,z1,z2,z3⟩,⟨f0,f1,f2,f3⟩,hzq⟩:=HBX3.out
     clear H HZ
     go_wp2_with fail
     exact bodyPost_ret (v:=.tuple #[.agg #[.int .i64 0,.int .i64 0,.string .empty,.slice none 0 0],.int .i64 7]) (by simp[results,Tryz.results103,go_sem,z0,z1,z2,z3,hzq];rfl) rfl (nC ((bL HB3.out (by omega) _ _ _ _).alloc (by rw[aJ];omega) _) (by simp[lS,HN.out]) (by simp[Gd,lS,HN.out,HE0.out]))
    ·obtain⟨z,hz⟩:∃z,o=some z:=by
       have:=H.out.2.2.2.1
       cases o with
       | none=>cases this
       | some z=>exact⟨z,rfl⟩
     have HOZ:=hide hz
     have HS:=hide (H.out.2.2.2.2 z hz)
     have HKZ:Hid (∀w1,Below w3.heap.size w3 w1->Calls Tryz.prog 42 #[.agg #[.int .i64 y.1.1,.int .i64 y.1.2.1,.string y.1.2.2,.slice y.2.1.1 y.2.2.length y.2.1.2]] w1 fun e w'=>e=.returned (.int .i64 (aQ (N+1) z))/\Below w1.heap.size w1 w'):=
      fun w1 h1=>HZ.out HE0.out y z w1 HOZ.out HS.out ((H.out.2.1.below h1).mono h1.size)
     obtain⟨cz,hcz⟩:∃cz,cz=aQ (N+1) z:=⟨_,rfl⟩
     rw[<-hcz]at HKZ
     have HCZ:=hide hcz
     have HQ:=fun(w4:World) (h4:Below w3.heap.size w3 w4) (h0:cz=0) v0 v1 v2 v3=>hide (M8 (E:=E) HE0.out HOZ.out (HCZ.out.symm.trans h0) HB2.out (Nat.le_add_right _ 1) HBX2.out.2.2 H.out.1 H.out.2.1 H.out.2.2.1 HS.out h4 v0 v1 v2 v3)
     clear hz hcz HZ H HBX2 HB2
     go_wp2_with fail
     refine(HKZ.out _ ((Below.refl _ _).alloc (Nat.le_refl _) _)).mono ?_
     rintro e w4 ⟨rfl,hb4⟩
     obtain⟨⟨t0,t1,t2,t3⟩,_⟩:=boxed hb4
     have HB4:Hid (Below w3.heap.size w3 w4):=((Below.refl _ _).alloc (Nat.le_refl _) _).trans (hb4.mono (by simp))
     have HBX4:=hide (HBX3.out.below HB4.out)
     have HW4:Hid (Below w.heap.size w w4):=HB3.out.trans (HB4.out.mono HB3.out.size)
     obtain⟨⟨z0,z1,z2,z3⟩,⟨f0,f1,f2,f3⟩,hzq⟩:=HBX4.out
     have hne1:¬(w.heap.size+1=w3.heap.size):=by have:=HBX3.out.2.2;omega
     have hne2:¬(w3.heap.size=w.heap.size+1):=fun e=>hne1 e.symm
     clear hb4 HKZ HBX3
     by_cases hz0:cz=0
     ·have hc2:(cz !=0)=false:=by simp[hz0]
      have HT:=fun v0 v1 v2 v3=>HQ w4 HB4.out hz0 v0 v1 v2 v3
      clear HQ hz0
      go_wp2_with fail
      exact bodyPost_ret (v:=.tuple #[.agg #[.int .i64 y.1.1,.int .i64 y.1.2.1,.string y.1.2.2,.slice y.2.1.1 y.2.2.length y.2.1.2],.int .i64 0]) (by simp[results,Tryz.results103,go_sem,z0,z1,z2,z3]) rfl (HT _ _ _ _).out
     ·have hc2:(cz !=0)=true:=by simpa using hz0
      have HNZ:=hide hz0
      clear HQ hz0
      go_wp2_with fail
      exact bodyPost_ret (v:=.tuple #[.agg #[.int .i64 0,.int .i64 0,.string .empty,.slice none 0 0],.int .i64 7]) (by simp[results,Tryz.results103,go_sem,z0,z1,z2,z3];rfl) rfl (nC (bL HW4.out (by omega) _ _ _ _) (by have h1:=HCZ.out;have h2:=HNZ.out;rw[h1]at h2;simp[lS,HOZ.out,h2]) (by have h1:=HCZ.out;have h2:=HNZ.out;rw[h1]at h2;simp[Gd,lS,HOZ.out,HE0.out,h2]))
theorem Ff (n m:Nat) (x:Tm (n+1)) (b:List (Tm m)) (a:Option Addr) (c B:Nat) (self:Int) (w:World) (hx:In B w (n+1) x) (hb:Lies B w m b a) (hB:B<=w.heap.size) (hN:(nodes (n+1) x).length<=2097152) (hbl:b.length<=9223372036854775807) (hNb:∀y∈b,(nodes m y).length<=2097152):
    Calls Tryz.prog 103 #[val (n+1) x,.slice a b.length c,.int .i64 self] w (A9 (m+n) (FN (aQ (n+1) x) (eX m b) self) (vl m b self (n+1) x) w):=by
 refine C8 (m+n) _ a b.length c self x.1.1 x.1.2.1 x.1.2.2 x.2.1.1 x.2.2.length x.2.1.2 (aQ (n+1) x) (eX m b) w ?_ ?_ ?_ ?_
 ·intro w1 h1
  exact dh (n+1) x B w1 (hx.below (h1.mono hB)) (Nat.le_trans hB h1.size) hN
 ·intro w1 h1
  exact BV m b a c B w1 (hb.below (h1.mono hB)) hbl hNb (Nat.le_trans hB h1.size)
 ·intro hE w1 h1
  obtain⟨e1,e2,e3⟩:=BP hE
  have h4:=(fT e2).1
  rw[h4]
  exact Jj m b self e2 e3 (n+1) x a c B w1 (hx.below (h1.mono hB)) (ax.2 (aN.1 e1).1) (hb.below (h1.mono hB)) (Nat.le_trans hB h1.size)
 ·intro hE y z w1 ho hs hin
  obtain⟨e1,e2,e3⟩:=BP hE
  have hn:=Ik e1 e2 ho
  have hk:=dh (m+n+1) y w1.heap.size w1 hin (Nat.le_refl _) (by rw[jf _ _ _ _ hs];exact hn)
  rw[aX hs]at hk
  exact hk
theorem BF {n m n' m':Nat} {x:Tm n} {y:Tm m} {x':Tm n'} {y':Tm m'} (h:same n x n' x'=true) (k:same m y m' y'=true):same n x m y=same n' x' m' y':=by
 cases e:same n' x' m' y' with
 | true=>exact aW _ _ _ _ _ _ h (aW _ _ _ _ _ _ e (cK _ _ _ _ k))
 | false=>
  cases e2:same n x m y with
  | false=>rfl
  | true=>
   have h2:=aW _ _ _ _ _ _ (cK _ _ _ _ h) (aW _ _ _ _ _ _ e2 k)
   rw[e]at h2
   cases h2
def mK:Option (List An)->Option (List An)->Prop
 | none,none=>True
 | some b,some c=>ah dx b c=true
 | _,_=>False
theorem wu {x y:An} (h:dx x y=true):aU x=aU y:=by
 obtain⟨n,x⟩:=x
 obtain⟨m,y⟩:=y
 cases n with
 | zero=>simp[dx,same]at h
 | succ n=>
  cases m with
  | zero=>simp[dx,same]at h
  | succ m=>
   simp only[dx,same,Bool.and_eq_true,beq_iff_eq]at h
   exact h.1.1.1
theorem wS {α β:Type} {f:α->β->Bool} {a:α} {b:β} (hab:f a b=true):(p:List α)->(q:List β)->(i:Nat)->ah f p q=true->ah f (p.set i a) (q.set i b)=true
 | [],[],_,_=>by simp[ah]
 | [],_::_,_,h=>by simp[ah]at h
 | _::_,[],_,h=>by simp[ah]at h
 | x::p,y::q,0,h=>by
  simp only[ah,Bool.and_eq_true]at h
  simp[ah,hab,h.2]
 | x::p,y::q,i+1,h=>by
  simp only[ah,Bool.and_eq_true]at h
  simp[ah,h.1,wS hab p q i h.2]
theorem Dv {b c:List An} {i:Nat} {t u:An} (hb:ah dx b c=true) (ht:dx t u=true):mK (wC b i t) (wC c i u):=by
 have hl:=bN _ _ _ hb
 unfold wC
 cases e:b[i]? with
 | none=>
  have e2:c[i]? =none:=by
   rw[List.getElem?_eq_none_iff]at e ⊢
   omega
  rw[e2]
  trivial
 | some y=>
  obtain⟨h1,e1⟩:=List.getElem?_eq_some_iff.1 e
  have e2:c[i]? =some c[i]:=List.getElem?_eq_getElem (by omega)
  rw[e2]
  have hy:dx y c[i]=true:=jG _ _ _ hb i _ _ e e2
  simp only
  rw[<-wu hy]
  by_cases h6:aU y=6
  ·rw[if_pos h6,if_pos h6]
   exact wS ht _ _ _ hb
  ·rw[if_neg h6,if_neg h6]
   have he:dx y t=dx c[i] u:=BF hy ht
   rw[<-he]
   cases dx y t
   ·simp[mK]
   ·simpa [mK]using hb
theorem uB {α β α' β':Type} (f:α->β->List An->Option (List An)) (g:α'->β'->List An->Option (List An)) (P:α->α'->Bool) (Q:β->β'->Bool):
    (p:List α)->(q:List β)->(p':List α')->(q':List β')->(∀x∈p,∀y∈q,∀x' y' b c,P x x'=true->Q y y'=true->ah dx b c=true->mK (f x y b) (g x' y' c))->ah P p p'=true->ah Q q q'=true->∀b c,ah dx b c=true->mK (gz f p q b) (gz g p' q' c)
 | [],_,p',_,_,hp,_,b,c,hb=>by
  cases p' with
  | nil=>simpa [gz,mK]using hb
  | cons _ _=>simp[ah]at hp
 | x::p,[],p',q',_,hp,hq,b,c,hb=>by
  cases q' with
  | nil=>cases p'<;>simpa [gz,mK]using hb
  | cons _ _=>simp[ah]at hq
 | x::p,y::q,p',q',hf,hp,hq,b,c,hb=>by
  cases p' with
  | nil=>simp[ah]at hp
  | cons x' p'=>
   cases q' with
   | nil=>simp[ah]at hq
   | cons y' q'=>
    simp only[ah,Bool.and_eq_true]at hp hq
    have h1:=hf x (by simp) y (by simp) x' y' b c hp.1 hq.1 hb
    simp only[gz]
    cases e1:f x y b with
    | none=>
     rw[e1]at h1
     cases e2:g x' y' c with
     | none=>simp[mK]
     | some _=>rw[e2]at h1;exact h1.elim
    | some d=>
     rw[e1]at h1
     cases e2:g x' y' c with
     | none=>rw[e2]at h1;exact h1.elim
     | some d'=>
      rw[e2]at h1
      simp only[Option.bind_some]
      exact uB f g P Q p q p' q' (fun x hx y hy=>hf x (by simp[hx]) y (by simp[hy])) hp.2 hq.2 d d' h1
theorem rQ:(n:Nat)->(p:Tm n)->(m:Nat)->(t:Tm m)->(n':Nat)->(p':Tm n')->(m':Nat)->(t':Tm m')->(b c:List An)->same n p n' p'=true->same m t m' t'=true->ah dx b c=true->mK (fit n p m t b) (fit n' p' m' t' c)
 | 0,_,_,_,_,_,_,_,_,_,h,_,_=>by simp[same]at h
 | _+1,_,_,_,0,_,_,_,_,_,h,_,_=>by simp[same]at h
 | _+1,_,0,_,_+1,_,_,_,_,_,_,h,_=>by simp[same]at h
 | _+1,_,_+1,_,_+1,_,0,_,_,_,_,h,_=>by simp[same]at h
 | n+1,p,m+1,t,n'+1,p',m'+1,t',b,c,hp,ht,hb=>by
  have hp0:=hp
  have ht0:=ht
  simp only[same,Bool.and_eq_true,beq_iff_eq]at hp ht
  obtain⟨⟨⟨p1,p2⟩,p3⟩,p4⟩:=hp
  obtain⟨⟨⟨t1,t2⟩,t3⟩,t4⟩:=ht
  unfold fit
  rw[<-p1,<-p2,<-t1,<-bN _ _ _ p4,<-bN _ _ _ t4]
  by_cases h6:p.1.1=6
  ·rw[if_pos h6,if_pos h6]
   exact hb
  ·rw[if_neg h6,if_neg h6]
   by_cases h5:p.1.1=5
   ·rw[if_pos h5,if_pos h5]
    exact Dv hb ht0
   ·rw[if_neg h5,if_neg h5]
    by_cases h4:p.1.1=4
    ·rw[if_pos h4,if_pos h4]
     by_cases h7:t.1.1=4/\p.2.2.length=t.2.2.length
     ·rw[if_pos h7,if_pos h7]
      exact uB _ _ (fun x y=>same n x n' y) (fun x y=>same m x m' y) p.2.2 t.2.2 p'.2.2 t'.2.2 (fun x _ y _ x' y' b c h1 h2 h3=>rQ n x m y n' x' m' y' b c h1 h2 h3) p4 t4 b c hb
     ·rw[if_neg h7,if_neg h7]
      trivial
    ·rw[if_neg h4,if_neg h4,<-BF hp0 ht0]
     cases same (n+1) p (m+1) t
     ·simp[mK]
     ·simpa [mK]using hb
end Go.Proofs.YtmbjgiaebneodaaGreat
