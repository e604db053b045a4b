/- What is proved here: plain facts and contracts that the claimed theorem stands on. No condition but those that each names. -/
import Derived.Test.YtbknffhilfoakaaGreatG32
import Derived.Test.YtbknffhilfoakaaGreatG31
import Derived.Deep.DeepCutAuto
import Derived.Deep.CutBlock
namespace Go.Proofs.YtbknffhilfoakaaGreat
open Go.RowKit
set_option maxHeartbeats 1000000
set_option maxRecDepth 100000
theorem DT {N:Nat} {z:Tm N} (h:ak ⟨N,z⟩): -1099511627776<=iL N z/\iL N z<=1099511627776:=by
 cases N with
 | zero=>exact(bW h).elim
 | succ N=>
  have hg:=h (aO N z) (by simp[nodes,aO])
  have hk:=gK (aO N z) hg
  simp only[iL,dF]
  unfold good at hg
  rcases hk with k|k|k|k|k|⟨k,k0⟩
  all_goals (rw[k]at hg;simp[eZ]at hg;omega)
theorem IG (m:Nat) (b:List (Tm m)) (self:Int) (n:Nat) (p:List (Tm n)) (hr:∀y∈p,ak ⟨n,y⟩) (h:nZ n p mq 2=true):∃(x0 x1 x2:Tm n) (z0:Tm (m+n)),p=[x0,x1,x2]/\vl m b self n x0=some z0:=by
 have hl:=kI h
 obtain⟨x0,x1,x2,rfl⟩:∃x0 x1 x2,p=[x0,x1,x2]:=by
  match p,hl with
  | [x0,x1,x2],_=>exact⟨x0,x1,x2,rfl⟩
 have h0:=hr x0 (by simp)
 cases n with
 | zero=>exact(bW h0).elim
 | succ n=>
  rw[zR hl rfl]at h
  have hk:x0.1.1=2:=by simp at h;exact h.1
  exact⟨x0,x1,x2,_,rfl,qG m b self n x0 (by omega) (by omega) (by omega)⟩
theorem FP (m:Nat) (b:List (Tm m)) (self:Int) (n:Nat) (p:List (Tm n)) (hr:∀y∈p,ak ⟨n,y⟩) (h1:nZ n p iZ 0=false) (h2:nZ n p qx 1=false):
    kJ m n self (fun y=>vl m b self n y) p=ui (m+n) (nZ n p mq 2) (fM (fun y=>vl m b self n y) p):=by
 cases h3:nZ n p mq 2
 ·simp only[kJ,h1,h2,h3,ui]
  cases fM (fun y=>vl m b self n y) p<;>rfl
 ·obtain⟨x0,x1,x2,z0,rfl,hz⟩:=IG m b self n p hr h3
  simp only[kJ,h1,h3,ui,fM,hz]
  cases h4:vl m b self n x1 with
  | none=>simp[h4]
  | some z1=>
   cases h5:vl m b self n x2 with
   | none=>simp[h5]
   | some z2=>simp[Jb,h4,h5]
theorem AX (m:Nat) (b:List (Tm m)) (self:Int) (hbd:dz m b=true) (hs:1<=self/\self<=99) (n:Nat):KP m b self n:=by
 induction n with
 | zero=>intro P x a c B w hx;exact hx.elim
 | succ n ih=>
  intro P x a c B w hx hof hr hN hb hB
  obtain⟨h4b,hbk⟩:=dI hbd
  have hbr:∀y∈b,ak ⟨m,y⟩:=fun y hy=>(hbk y hy).2.1
  have hg:=hr (aO n x) (by simp[nodes,aO])
  have hlen:x.2.2.length<=8:=gm (aO n x) hg
  have hold:∀(M:Nat) (y:Tm (M+1)) (r:Bool) (o:Option (Tm (m+n+1))) (w':World),M+1<=m+n+1->In B w (M+1) y->Off P (M+1) y->ak ⟨M+1,y⟩->Below w.heap.size w w'->o=(if r then some (lift (m+n+1) (M+1) y)else none)->pO P B (m+n+1) o w (.returned (.tuple #[.agg #[.int .i64 y.1.1,.int .i64 y.1.2.1,.string y.1.2.2,.slice y.2.1.1 y.2.2.length y.2.1.2],.bool r])) w':=by
   intro M y r o w' hM hin hoy hry hbl ho
   have h1:=fZ (m+n+1) (M+1) hM _ _ _ hin
   refine⟨lift (m+n+1) (M+1) y,r,by rw[mX];rfl,hbl,(h1.below (hbl.mono hB)).mono (Nat.le_trans hB hbl.size),(In.offB (jG _ _ hM _ hoy) h1).mono fun q hq=>Or.inl hq,by rw[ho];cases r<;>rfl,fun z hz=> ?_⟩
   rw[ho]at hz
   cases r with
   | false=>cases hz
   | true=>
    obtain rfl:=Option.some.inj hz
    exact eu _ _ (jT hM y hry)
  by_cases h6:x.1.1=6
  ·have hh:=JN self x.1.2.1 x.1.2.2 x.2.1.1 x.2.2.length x.2.1.2 a c w
   rw[<-h6]at hh
   refine hh.mono ?_
   rintro e w' ⟨rfl,hbl⟩
   exact hold n x false _ w' (by omega) hx hof hr hbl (Ae m b self n x h6)
  ·by_cases h5:x.1.1=5
   ·have hn:0<=x.1.2.1/\x.1.2.1<=3:=by
      have h51:¬(5:Int)=1:=by decide
      have h52:¬(5:Int)=2:=by decide
      have h53:¬(5:Int)=3:=by decide
      have h54:¬(5:Int)=4:=by decide
      simp only[good,aO,h5,eZ,Bool.and_eq_true,if_true,h51,h52,h53,h54,if_false]at hg
      exact⟨of_decide_eq_true hg.1.2.1,of_decide_eq_true hg.1.2.2⟩
    obtain⟨k,hk⟩:∃k:Nat,x.1.2.1=(k:Int):=⟨x.1.2.1.toNat,by omega⟩
    obtain⟨y,hy⟩:∃y,b[k]? =some y:=⟨b[k]'(by omega),List.getElem?_eq_getElem _⟩
    have hry:=(hbk y (List.mem_of_getElem? hy)).2.1
    have eo:=GG m b self n x y k h5 hk hy
    rcases hb with hb|⟨bb,bo,rfl,hbb,hb⟩
    ·rw[hb]at h4b;simp at h4b
    ·obtain⟨hy1,hy2⟩:=hb k y hy
     cases m with
     | zero=>exact(bW hry).elim
     | succ m=>
     have hh:=Jg self x.1.2.1 x.1.2.2 x.2.1.1 x.2.2.length x.2.1.2 bb bo k c w y.1.1 y.1.2.1 y.1.2.2 y.2.1.1 y.2.2.length y.2.1.2 hk (by omega) (by omega) hy1
     rw[<-h5]at hh
     refine hh.mono ?_
     rintro e w' ⟨rfl,hbl⟩
     refine hold m y (y.1.1 !=6) _ w' (by omega) hy2.1 hy2.2 hry hbl ?_
     rw[eo]
     by_cases h:y.1.1=6
     ·simp[bE,h]
     ·simp[bE,h]
   ·by_cases h4:x.1.1=4
    ·have hp:Lies B w n x.2.2 x.2.1.1:=hx.2
     have hrp:∀y∈x.2.2,ak ⟨n,y⟩:=fun y hy=>aH n x y hr hy
     have hNp:∀y∈x.2.2,(nodes n y).length<=2097152:=fun y hy=>by
      have:=p9 (fun y=>nodes n y) x.2.2 y hy
      simp only[nodes,List.length_cons]at this hN
      omega
     have hi:=fun s k (hk:k<=8) w1 (h1:Below w.heap.size w w1)=>JP n x.2.2 x.1.2.1 x.1.2.2 x.2.1.1 x.2.1.2 B s k w1 (hp.below (h1.mono hB)) (Nat.le_trans hB h1.size) hlen hk
     have hi1:=hi iZ 0 (by omega)
     have hi2:=hi qx 1 (by omega)
     have hi3:=hi mq 2 (by omega)
     have ev:val (n+1) x=.agg #[.int .i64 4,.int .i64 x.1.2.1,.string x.1.2.2,.slice x.2.1.1 x.2.2.length x.2.1.2]:=by rw[<-h4];rfl
     rw[ev,zV m b self n x h4]
     cases e1:nZ n x.2.2 iZ 0
     ·rw[e1]at hi1
      cases e2:nZ n x.2.2 qx 1
      ·rw[e2]at hi2
       rw[FP m b self n x.2.2 hrp e1 e2]
       refine Ha P m b self n ih x.2.2 x.1.2.1 x.1.2.2 x.2.1.1 x.2.2.length x.2.1.2 rfl hlen a c B (nZ n x.2.2 mq 2) w (fun h=>by have:=kI h;omega) ?_ ?_ hp hrp hNp ?_ hb hB hi1 hi2 hi3
       ·intro l hl i z hz
        obtain⟨k1,k2⟩:=kP _ _ _ hl
        have hi:i<x.2.2.length:=by rw[<-k1];exact(List.getElem?_eq_some_iff.1 hz).1
        exact DT (nu m b self hs hbr n x.2.2[i] (hrp _ (List.getElem_mem _)) z (k2 i _ z (List.getElem?_eq_getElem hi) hz))
       ·show In B w (n+1) ((4,x.1.2.1,x.1.2.2),(x.2.1.1,x.2.1.2),x.2.2)
        rw[<-h4]
        exact hx
       ·show Off P (n+1) ((4,x.1.2.1,x.1.2.2),(x.2.1.1,x.2.1.2),x.2.2)
        rw[<-h4]
        exact hof
      ·rw[e2]at hi2
       have hl:=kI e2
       have hp':=hp
       rcases hp with hp|⟨pb,po,hpa,hpb,hp⟩
       ·rw[hp]at hl;simp at hl
       ·obtain⟨y,hy⟩:∃y,x.2.2[1]? =some y:=⟨x.2.2[1]'(by omega),List.getElem?_eq_getElem _⟩
        obtain⟨hy1,hy2⟩:=hp 1 y hy
        have hry:=hrp y (List.mem_of_getElem? hy)
        have e3:nZ n x.2.2 mq 2=false:=qM (by omega)
        have eo:kJ m n self (fun y=>vl m b self n y) x.2.2=if ai n y=true then some (lift (m+n+1) n y)else none:=by simp[kJ,e1,e2,e3,hy]
        rw[eo]
        cases n with
        | zero=>exact hy1.elim
        | succ n=>
        rw[show x.2.2.length=2 by omega,hpa]at hi1 hi2 ⊢
        have hh:=JB self x.1.2.1 x.1.2.2 pb po x.2.1.2 a c w y.1.1 y.1.2.1 y.1.2.2 y.2.1.1 y.2.2.length y.2.1.2 (ai (n+1) y) (by omega) (by simpa [Held]using hy1) hi1 hi2 (fun w1 h1=>by
         rw[bZ]
         exact qg (n+1) y B w1 (hy2.below (h1.mono hB)) (Nat.le_trans hB h1.size) (hNp y (List.mem_of_getElem? hy)))
        refine hh.mono ?_
        rintro e w' ⟨rfl,hbl⟩
        have hoy:Off P (n+1) y:=by
         rcases hof with e|⟨_,_,_,_,h⟩
         ·rw[e]at hy
          simp at hy
         ·exact h 1 y hy
        exact hold n y (ai (n+1) y) _ w' (by omega) hy2 hoy hry hbl rfl
     ·rw[e1]at hi1
      refine(Iq self x.1.2.1 x.1.2.2 x.2.1.1 x.2.2.length x.2.1.2 a c w hi1).mono ?_
      rintro e w' ⟨rfl,hbl⟩
      have eo:kJ m n self (fun y=>vl m b self n y) x.2.2=some (aQ 3 self (m+n)):=by simp[kJ,e1]
      rw[eo]
      exact⟨aQ 3 self (m+n),true,rfl,hbl,(cZ (m+n) 3 self (by simp[dZ]) ⟨by omega,by omega⟩ _ _ (fun _=>True)).1,(cZ (m+n) 3 self (by simp[dZ]) ⟨by omega,by omega⟩ 0 w _).2,rfl,fun z hz=>by obtain rfl:=Option.some.inj hz;exact jN (m+n) 3 self⟩
    ·have hh:=BF self x.1.1 x.1.2.1 x.1.2.2 x.2.1.1 x.2.2.length x.2.1.2 a c w h4 h5 h6
     refine hh.mono ?_
     rintro e w' ⟨rfl,hbl⟩
     exact hold n x true _ w' (by omega) hx hof hr hbl (qG m b self n x h4 h5 h6)
def sD (P:Nat->Prop) (B N:Nat) (o:Option (Tm (N+1))) (w:World) (e:Ending) (w':World):Prop:=
 ∃(y:Tm (N+1)) (r:Bool),e=.returned (.tuple #[val (N+1) y,.bool r])/\Hid (Below w.heap.size w w'/\In w'.heap.size w' (N+1) y/\Off (fun q=>(P q/\q<B)∨w.heap.size<=q) (N+1) y/\r=(jq 0 o).isSome/\same (N+1) y (N+1) ((jq 0 o).getD (zeroV N))=true)
theorem xw {P:Nat->Prop} {B N:Nat} {o:Option (Tm (N+1))} {w w':World} (hb:Below w.heap.size w w') (h:jq 0 o=none):sD P B N o w (.returned (.tuple #[.agg #[.int .i64 0,.int .i64 0,.string .empty,.slice none 0 0],.bool false])) w':=
 ⟨zeroV N,false,rfl,hb,(cZ N 0 0 dJ dJ _ _ (fun _=>True)).1,(cZ N 0 0 dJ dJ 0 w _).2,by rw[h];rfl,by rw[h];exact jN N 0 0⟩
theorem Fq {P:Nat->Prop} {B N:Nat} {o:Option (Tm (N+1))} {z:Tm (N+1)} {w w1 w2 w3:World} {y:Tm (N+1)} {q:Nat} (hB:B<=w.heap.size) (ho:o=some z) (hc:aP (N+1) z=0) (hb:Below w.heap.size w w1) (hq:w.heap.size<=q) (hq1:q<w1.heap.size)
    (k1:Below w1.heap.size w1 w2) (k2:In w2.heap.size w2 (N+1) y) (k3:Off (fun q=>(P q/\q<B)∨w1.heap.size<=q) (N+1) y) (k4:same (N+1) y (N+1) z=true) (hb3:Below w2.heap.size w2 w3) (v0 v1 v2 v3:Value):
    sD P B N o w (.returned (.tuple #[.agg #[.int .i64 y.1.1,.int .i64 y.1.2.1,.string y.1.2.2,.slice y.2.1.1 y.2.2.length y.2.1.2],.bool true])) (bG w3 q 0 v0 v1 v2 v3):=by
 have hs:=hb.size
 have hbb:=(hb.trans (k1.mono hs)).trans (hb3.mono (Nat.le_trans hs k1.size))
 have er:jq 0 o=some z:=by simp[jq,ho,hc]
 refine⟨y,true,rfl,aR hbb hq _ _ _ _, ?_,k3.mono fun b hh=>hh.imp id fun h=>by omega,by rw[er];rfl,by rw[er];exact k4⟩
 rw[aF]
 exact In.off (P:=fun b=>(P b/\b<B)∨w1.heap.size<=b) (fun b hh=>au (by rcases hh with h|h<;>omega) _ _ _ _) k3 ((k2.below hb3).mono hb3.size)
theorem wS (P:Nat->Prop) (B N:Nat) (o:Option (Tm (N+1))) (a:Option Addr) (c:Nat) (self:Int) (x0 x1:Int) (x2:ByteArray) (xa:Option Addr) (xl xc:Nat) (w:World) (hB:B<=w.heap.size)
    (HV:Hid (∀w1,Below w.heap.size w w1->Calls Tryz.prog 74 #[.agg #[.int .i64 x0,.int .i64 x1,.string x2,.slice xa xl xc],.slice a 4 c,.int .i64 self] w1 (pO P B (N+1) o w1)))
    (HZ:Hid (∀(y z:Tm (N+1)) (w1:World),o=some z->same (N+1) y (N+1) z=true->In w1.heap.size w1 (N+1) y->Calls Tryz.prog 31 #[.agg #[.int .i64 y.1.1,.int .i64 y.1.2.1,.string y.1.2.2,.slice y.2.1.1 y.2.2.length y.2.1.2]] w1 fun e w'=>e=.returned (.int .i64 (aP (N+1) z))/\Below w1.heap.size w1 w')):
    Calls Tryz.prog 59 #[.agg #[.int .i64 x0,.int .i64 x1,.string x2,.slice xa xl xc],.slice a 4 c,.int .i64 self] w (sD P B N o w):=by
 go_enter Tryz.func59,Tryz.ntmps59
 go_wp2_with fail
 refine(HV.out _ (bT w _ _ _ _ _ _).1).mono ?_
 rintro e w3 ⟨y,r,rfl,H⟩
 have HB3:Hid (Below w.heap.size w w3):=(bT w _ _ _ _ _ _).1.trans (H.out.1.mono (bT w _ _ _ _ _ _).1.size)
 have HBX3:=hide ((bT w _ _ _ _ _ _).2.below H.out.1)
 have e3:val (N+1) y=.agg #[.int .i64 y.1.1,.int .i64 y.1.2.1,.string y.1.2.2,.slice y.2.1.1 y.2.2.length y.2.1.2]:=rfl
 rw[e3]
 clear HV e3
 cases r
 ·have HN:Hid (o=none):=by
    have:=H.out.2.2.2.1
    cases o with
    | none=>rfl
    | some z=>cases this
  obtain⟨⟨z0,z1,z2,z3⟩,⟨f0,f1,f2,f3⟩,hzq⟩:=HBX3.out
  clear H HZ
  go_wp2_with fail
  exact bodyPost_ret (v:=.tuple #[.agg #[.int .i64 0,.int .i64 0,.string .empty,.slice none 0 0],.bool false]) (by simp[results,Tryz.results59,go_sem,z0,z1,z2,z3,hzq];rfl) rfl (xw ((aR HB3.out (by omega) _ _ _ _).alloc (by rw[aF];omega) _) (by simp[jq,HN.out]))
 ·obtain⟨z,hz⟩:∃z,o=some z:=by
    have:=H.out.2.2.2.1
    cases o with
    | none=>cases this
    | some z=>exact⟨z,rfl⟩
  have HOZ:=hide hz
  have HS:=hide (H.out.2.2.2.2 z hz)
  have HKZ:Hid (∀w1,Below w3.heap.size w3 w1->Calls Tryz.prog 31 #[.agg #[.int .i64 y.1.1,.int .i64 y.1.2.1,.string y.1.2.2,.slice y.2.1.1 y.2.2.length y.2.1.2]] w1 fun e w'=>e=.returned (.int .i64 (aP (N+1) z))/\Below w1.heap.size w1 w'):=
   fun w1 h1=>HZ.out y z w1 HOZ.out HS.out ((H.out.2.1.below h1).mono h1.size)
  obtain⟨cz,hcz⟩:∃cz,cz=aP (N+1) z:=⟨_,rfl⟩
  rw[<-hcz]at HKZ
  have HCZ:=hide hcz
  have HQ:=fun(w4:World) (h4:Below w3.heap.size w3 w4) (h0:cz=0) v0 v1 v2 v3=>hide (Fq hB HOZ.out (HCZ.out.symm.trans h0) (bT w _ _ _ _ _ _).1 (Nat.le_add_right _ 1) (bT w _ _ _ _ _ _).2.2.2 H.out.1 H.out.2.1 H.out.2.2.1 HS.out h4 v0 v1 v2 v3)
  clear hz hcz HZ H
  go_wp2_with fail
  refine(HKZ.out _ ((Below.refl _ _).alloc (Nat.le_refl _) _)).mono ?_
  rintro e w4 ⟨rfl,hb4⟩
  obtain⟨⟨t0,t1,t2,t3⟩,_⟩:=boxed hb4
  have HB4:Hid (Below w3.heap.size w3 w4):=((Below.refl _ _).alloc (Nat.le_refl _) _).trans (hb4.mono (by simp))
  have HBX4:=hide (HBX3.out.below HB4.out)
  have HW4:Hid (Below w.heap.size w w4):=HB3.out.trans (HB4.out.mono HB3.out.size)
  obtain⟨⟨z0,z1,z2,z3⟩,⟨f0,f1,f2,f3⟩,hzq⟩:=HBX4.out
  have hne1:¬(w.heap.size+1=w3.heap.size):=by have:=HBX3.out.2.2;omega
  have hne2:¬(w3.heap.size=w.heap.size+1):=fun e=>hne1 e.symm
  clear hb4 HKZ HBX3
  by_cases hz0:cz=0
  ·have hc2:(cz !=0)=false:=by simp[hz0]
   have HT:=fun v0 v1 v2 v3=>HQ w4 HB4.out hz0 v0 v1 v2 v3
   clear HQ hz0
   go_wp2_with fail
   exact bodyPost_ret (v:=.tuple #[.agg #[.int .i64 y.1.1,.int .i64 y.1.2.1,.string y.1.2.2,.slice y.2.1.1 y.2.2.length y.2.1.2],.bool true]) (by simp[results,Tryz.results59,go_sem,z0,z1,z2,z3]) rfl (HT _ _ _ _).out
  ·have hc2:(cz !=0)=true:=by simpa using hz0
   have HNZ:=hide hz0
   clear HQ hz0
   go_wp2_with fail
   exact bodyPost_ret (v:=.tuple #[.agg #[.int .i64 0,.int .i64 0,.string .empty,.slice none 0 0],.bool false]) (by simp[results,Tryz.results59,go_sem,z0,z1,z2,z3];rfl) rfl (xw (aR HW4.out (by omega) _ _ _ _) (by have h1:=HCZ.out;have h2:=HNZ.out;rw[h1]at h2;simp[jq,HOZ.out,h2]))
theorem Im (P:Nat->Prop) (n m:Nat) (x:Tm (n+1)) (b:List (Tm m)) (a:Option Addr) (c B:Nat) (self:Int) (w:World) (hx:In B w (n+1) x) (hof:Off P (n+1) x) (hb:LiesT P B w m b a) (hB:B<=w.heap.size) (h1:aP (n+1) x=0) (h2:dz m b=true) (h3:1<=self/\self<=99):
    Calls Tryz.prog 59 #[val (n+1) x,.slice a b.length c,.int .i64 self] w (sD P B (m+n) (vl m b self (n+1) x) w):=by
 rw[(dI h2).1]
 refine wS P B (m+n) _ a c self x.1.1 x.1.2.1 x.1.2.2 x.2.1.1 x.2.2.length x.2.1.2 w hB ?_ ?_
 ·intro w1 k1
  exact AX m b self h2 h3 (n+1) P x a c B w1 (hx.below (k1.mono hB)) hof (ax.2 (aN.1 h1).1) (Nat.le_trans (jC h1) (by omega)) (hb.below k1 hB) (Nat.le_trans hB k1.size)
 ·intro y z w1 ho hs hin
  have hn:=uo h1 h2 ho
  have hk:=jR (m+n+1) y w1.heap.size w1 hin (Nat.le_refl _) (by rw[iT _ _ _ _ hs];exact hn)
  rw[bu hs]at hk
  exact hk
theorem Iw {D n:Nat} {l:List (Tm (D+1))} {B:List Tc} (hb:dz (D+1) l=true) (ht:l.map (cn (D+1))=B) {self:Int} (x:Tm (n+1)) (hc:aP (n+1) x=0):
    (jq 0 (vl (D+1) l self (n+1) x)).isSome=(kF B self (n+1) x).isSome/\∀(z:Tm (D+1+n+1)) t,kF B self (n+1) x=some t->same _ z (D+1+n+1) ((jq 0 (vl (D+1) l self (n+1) x)).getD (zeroV (D+1+n)))=true->aP _ z=0/\ai _ z=true/\cn _ z=t:=by
 have hv:=Bg hb ht self x hc
 refine⟨by rw[<-hv,Option.isSome_map],fun z t h2 hs=> ?_⟩
 have hok:=Gn (Bf hb ht) hc h2
 rw[<-hv]at h2
 obtain⟨z0,hz0,rfl⟩:=Option.map_eq_some_iff.1 h2
 rw[hz0]at hs
 have hs:same _ z _ z0=true:=hs
 have hcz:=(bu hs).trans (BM hz0)
 have he:=gq hs
 refine⟨hcz, ?_,he⟩
 have h3:=hok.2.1
 rw[<-he,lG hcz]at h3
 exact h3
theorem yV {n:Nat} {x:Tm (n+1)} (h:aS (n+1) x=true):x.1.1=0/\x.2.2=[]:=by
 simp only[aS,Bool.and_eq_true,beq_iff_eq,dF,aO]at h
 exact⟨h.1.1.1,List.eq_nil_of_length_eq_zero (by have:=h.2;omega)⟩
theorem yw {n:Nat} {x:Tm (n+1)} (h:aS (n+1) x=true) {B:Nat} {w:World} (hx:In B w (n+1) x) {P:Nat->Prop} (hB:B<=w.heap.size) (a:Option Addr) (c:Nat) (self:Int):
    Calls Tryz.prog 59 #[.agg #[.int .i64 x.1.1,.int .i64 x.1.2.1,.string x.1.2.2,.slice x.2.1.1 x.2.2.length x.2.1.2],.slice a 4 c,.int .i64 self] w (sD P B n (some x) w):=by
 obtain⟨h0,hk⟩:=yV h
 have hsm:∀y:Tm (n+1),same (n+1) y (n+1) x=true->(nodes (n+1) y).length<=2097152:=fun y hy=>by
  rw[iT _ _ _ _ hy]
  simp[nodes,hk]
 refine wS P B n (some x) a c self x.1.1 x.1.2.1 x.1.2.2 x.2.1.1 x.2.2.length x.2.1.2 w hB ?_ ?_
 ·intro w1 k1
  refine(BF self x.1.1 x.1.2.1 x.1.2.2 x.2.1.1 x.2.2.length x.2.1.2 a c w1 (by omega) (by omega) (by omega)).mono ?_
  rintro e w' ⟨rfl,hb⟩
  have hx1:=hx.below (k1.mono hB)
  have hB1:=Nat.le_trans hB k1.size
  refine⟨x,true,rfl,hb,(hx1.below (hb.mono hB1)).mono (Nat.le_trans hB1 hb.size),Or.inl hk,rfl,fun z hz=> ?_⟩
  obtain rfl:=Option.some.inj hz
  exact bX rfl (by rw[hk];rfl)
 ·intro y z w1 ho hs hin
  obtain rfl:=Option.some.inj ho
  have k:=jR (n+1) y w1.heap.size w1 hin (Nat.le_refl _) (hsm y hs)
  rw[bu hs]at k
  exact k
section
variable {Zq Pq:Nat->Prop} {base ob:Nat} {y:Tc} {n D k:Nat} {nx:Int} {d:Dg} {w:World} {l:List (Tm (D+1))} {bg:Nat} {sd:List (Int×Tm (D+1+n+1))} {sp:List (Int×ByteArray×Tm (D+1+n+1))} {sv pv lv:Value}
theorem DaAt.value (h:DaAt Zq Pq base ob y n D k nx d w l bg sd sp sv pv lv) (x:Tm (n+1)) (hx:In base w (n+1) x/\Off Pq (n+1) x) (hc:aP (n+1) x=0∨aS (n+1) x=true) (bc:Nat) {self:Int} (hs:1<=self/\self<=99) (W:World) (hW:Below w.heap.size w W):
    Calls Tryz.prog 59 #[.agg #[.int .i64 x.1.1,.int .i64 x.1.2.1,.string x.1.2.2,.slice x.2.1.1 x.2.2.length x.2.1.2],.slice (some ⟨bg,0,none⟩) 4 bc,.int .i64 self] W fun e w'=>∃(z:Tm (D+1+n+1)) (r:Bool),e=.returned (.tuple #[.agg #[.int .i64 z.1.1,.int .i64 z.1.2.1,.string z.1.2.2,.slice z.2.1.1 z.2.2.length z.2.1.2],.bool r])/\
     Hid (Below W.heap.size W w'/\In w'.heap.size w' _ z/\Off (fun q=>(Pq q/\q<base)∨W.heap.size<=q) _ z/\(aP (n+1) x=0->r=(kF d.b self (n+1) x).isSome/\∀t,kF d.b self (n+1) x=some t->aP _ z=0/\ai _ z=true/\cn _ z=t)):=by
 have hbs:=h.own.2.2
 have hx1:=hx.1.below (hW.mono hbs)
 have hB1:=Nat.le_trans hbs hW.size
 rcases hc with hc|hc
 ·have k:=Im Pq n (D+1) x l (some ⟨bg,0,none⟩) bc base self W hx1 hx.2 (h.lies.below hW hbs) hB1 hc h.bnd hs
  rw[(dI h.bnd).1]at k
  refine k.mono ?_
  rintro e w' ⟨z,r,rfl,H⟩
  obtain⟨h1,h2,h3,h4,h5⟩:=H.out
  obtain⟨t1,t2⟩:=Iw h.bnd h.tells (self:=self) x hc
  exact⟨z,r,rfl,h1,h2,h3,fun _=>⟨h4.trans t1,fun t ht=>t2 z t ht h5⟩⟩
 ·refine(yw hc hx1 (P:=Pq) hB1 _ bc self).mono ?_
  rintro e w' ⟨z,r,rfl,H⟩
  obtain⟨h1,h2,h3,_⟩:=H.out
  have h0:=(yV hc).1
  refine⟨lift (D+1+n+1) (n+1) z,r, ?_,h1,fZ _ _ (by omega) _ _ _ h2,jG _ _ (by omega) _ h3,fun hx0=> ?_⟩
  ·have e:=mX (D+1+n) n z
   rw[<-e]
   rfl
  ·have hr:=ax.2 (aN.1 hx0).1
   have hg:=hr (aO n x) (by simp[nodes,aO])
   simp[good,aO,h0]at hg
def DaR (Zq Pq:Nat->Prop) (base ob:Nat) (y:Tc) (n D k:Nat) (nx:Int) (d:Dg) (w5 w:World) (l:List (Tm (D+1))) (bg:Nat) (sd:List (Int×Tm (D+1+n+1))) (sp:List (Int×ByteArray×Tm (D+1+n+1))) (sv pv lv:Value):Prop:=
 DaAt Zq Pq base ob y n D k nx d w l bg sd sp sv pv lv/\Kee (fun q=>q=bg∨q=ob) w5 w/\∀q,dh ob bg sv pv lv q->q=ob∨q=bg∨w5.heap.size<=q
variable {w5:World}
theorem DaR.later (h:DaR Zq Pq base ob y n D k nx d w5 w l bg sd sp sv pv lv) {w':World} (hb:Below w.heap.size w w'):DaR Zq Pq base ob y n D k nx d w5 w' l bg sd sp sv pv lv:=
 ⟨h.1.later hb,h.2.1.trans (aG hb fun _=>False) fun _ _ e=>e.elim,h.2.2⟩
theorem DaR.kee (h:DaR Zq Pq base ob y n D k nx d w5 w l bg sd sp sv pv lv) {w':World} (hk:Kee (dh ob bg sv pv lv) w w'):Kee (fun q=>q=bg∨q=ob) w5 w':=
 h.2.1.trans hk fun q hq e=>by
  rcases h.2.2 q e with e|e|e
  ·exact Or.inr e
  ·exact Or.inl e
  ·omega
theorem DaR.send (h:DaR Zq Pq base ob y n D k nx d w5 w l bg sd sp sv pv lv) {w3:World} {sv':Value} {u:Int} {z:Tm (D+1+n+1)} (hk:Kee (fun q=>sv.ownBlock=some q) w w3) (hr:w3.ownsRow base 111 5 sv' (sd.length+1) ((sd.flatMap fun z=>Cj z.1 z.2)++Cj u z)) (hs:∀q,sv'.ownBlock=some q->sv.ownBlock=some q∨w.heap.size<=q)
    (hz:aP _ z=0/\In w.heap.size w _ z/\Off (fun q=>¬dh ob bg sv pv lv q/\Zq q) _ z):DaR Zq Pq base ob y n D (k+1) nx {d with sends:=d.sends++ [(u,cn _ z)]} w5 (w3.setCell ⟨ob,5,none⟩ sv') l bg (sd++ [(u,z)]) sp sv' pv lv:=by
 have hW:∀q,dh ob bg sv' pv lv q->dh ob bg sv pv lv q∨w.heap.size<=q:=fun q hq=>by
  rcases hq with hq|hq|hq|hq
  ·exact Or.inl (Or.inl hq)
  ·exact Or.inl (Or.inr (Or.inl hq))
  ·exact(hs q hq).imp (fun e=>Or.inr (Or.inr (Or.inl e))) id
  ·exact Or.inl (Or.inr (Or.inr (Or.inr hq)))
 have hk1:Kee (dh ob bg sv pv lv) w w3:=hk.mono fun q _ hq=>Or.inr (Or.inr (Or.inl hq))
 have hz':=dn (D':=fun q=>¬dh ob bg sv' pv lv q/\Zq q) hk1.size (fun b q hl=>hk1.block b hl q.1) (fun b q hl=>⟨fun e=>by
  rcases hW b e with e|e
  ·exact q.1 e
  ·omega,q.2⟩) hz.2
 refine⟨h.1.send hk hr hs ⟨hz.1,hz'⟩,h.kee (hk1.trans (aW _ _ _ _) fun q _ e=>Or.inl e),fun q hq=> ?_⟩
 rcases hW q hq with e|e
 ·exact h.2.2 q e
 ·exact Or.inr (Or.inr (Nat.le_trans h.2.1.size e))
theorem DaR.link (h:DaR Zq Pq base ob y n D k nx d w5 w l bg sd sp sv pv lv) {w3:World} {lv':Value} {u:Int} (hk:Kee (fun q=>lv.ownBlock=some q) w w3) (hr:w3.ownsRow base 3 1 lv' (d.links.length+1) ((d.links.map fun u=> .int .i64 u)++ [.int .i64 u])) (hs:∀q,lv'.ownBlock=some q->lv.ownBlock=some q∨w.heap.size<=q):
    DaR Zq Pq base ob y n D (k+1) nx {d with links:=d.links++ [u]} w5 (w3.setCell ⟨ob,7,none⟩ lv') l bg sd sp sv pv lv':=by
 have hk1:Kee (dh ob bg sv pv lv) w w3:=hk.mono fun q _ hq=>Or.inr (Or.inr (Or.inr (Or.inr hq)))
 refine⟨h.1.link hk hr hs,h.kee (hk1.trans (aW _ _ _ _) fun q _ e=>Or.inl e),fun q hq=> ?_⟩
 rcases hq with e|e|e|e|e
 ·exact Or.inl e
 ·exact Or.inr (Or.inl e)
 ·exact h.2.2 q (Or.inr (Or.inr (Or.inl e)))
 ·exact h.2.2 q (Or.inr (Or.inr (Or.inr (Or.inl e))))
 ·rcases hs q e with e|e
  ·exact h.2.2 q (Or.inr (Or.inr (Or.inr (Or.inr e))))
  ·exact Or.inr (Or.inr (Nat.le_trans h.2.1.size e))
theorem DaR.stop (h:DaR Zq Pq base ob y n D k nx d w5 w l bg sd sp sv pv lv):DaR Zq Pq base ob y n D (k+1) nx {d with stops:=true} w5 (w.setCell ⟨ob,4,none⟩ (.int .i64 1)) l bg sd sp sv pv lv:=
 ⟨h.1.stop,h.kee ((aW _ _ _ _).mono fun _ _ e=>Or.inl e),h.2.2⟩
theorem DaR.spawn (h:DaR Zq Pq base ob y n D k nx d w5 w l bg sd sp sv pv lv) {w3:World} {pv':Value} {nm:ByteArray} {z:Tm (D+1+n+1)} {v:Nat} (hv:v<4) (hnx:1<=d.next/\d.next<=99) (hk:Kee (fun q=>pv.ownBlock=some q) w w3) (hr:w3.ownsRow base 116 6 pv' (sp.length+1) ((sp.flatMap fun z=>BZ z.1 z.2.1 z.2.2)++BZ d.next nm z)) (hs:∀q,pv'.ownBlock=some q->pv.ownBlock=some q∨w.heap.size<=q)
    (hz:aP _ z=0/\In w.heap.size w _ z/\Off (fun q=>¬dh ob bg sv pv lv q/\Zq q) _ z):
    ∃l',DaR Zq Pq base ob y n D (k+1) nx {d with b:=d.b.set v (nG d.next),next:=d.next+1,spawns:=d.spawns++ [(d.next,nm,cn _ z)]} w5 (bG (w3.setCell ⟨ob,6,none⟩ pv') bg (v*4) (.int .i64 3) (.int .i64 d.next) (.string ⟨#[]⟩) (.slice none 0 0)) l' bg sd (sp++ [(d.next,nm,z)]) sv pv' lv:=by
 have hW:∀q,dh ob bg sv pv' lv q->dh ob bg sv pv lv q∨w.heap.size<=q:=fun q hq=>by
  rcases hq with hq|hq|hq|hq|hq
  ·exact Or.inl (Or.inl hq)
  ·exact Or.inl (Or.inr (Or.inl hq))
  ·exact Or.inl (Or.inr (Or.inr (Or.inl hq)))
  ·exact(hs q hq).imp (fun e=>Or.inr (Or.inr (Or.inr (Or.inl e)))) id
  ·exact Or.inl (Or.inr (Or.inr (Or.inr (Or.inr hq))))
 have hk1:Kee (dh ob bg sv pv lv) w w3:=hk.mono fun q _ hq=>Or.inr (Or.inr (Or.inr (Or.inl hq)))
 have hz':=dn (D':=fun q=>¬dh ob bg sv pv' lv q/\Zq q) hk1.size (fun b q hl=>hk1.block b hl q.1) (fun b q hl=>⟨fun e=>by
  rcases hW b e with e|e
  ·exact q.1 e
  ·omega,q.2⟩) hz.2
 obtain⟨l',h'⟩:=h.1.spawn hv hnx hk hr hs ⟨hz.1,hz'⟩
 refine⟨l',h',h.kee ((hk1.trans (aW _ _ _ _) fun q _ e=>Or.inl e).trans (jm _ _ _ _ _ _ _) fun q _ e=>Or.inr (Or.inl e)),fun q hq=> ?_⟩
 rcases hW q hq with e|e
 ·exact h.2.2 q e
 ·exact Or.inr (Or.inr (Nat.le_trans h.2.1.size e))
end
def DkRows (b0:Nat) (D:Nat->Prop) (sends:List (Int×Tc)) (spawns:List (Int×ByteArray×Tc)) (links:List Int) (sv pv lv:Value) (w:World):Prop:=
 ∃(N:Nat) (sd:List (Int×Tm (N+1))) (sp:List (Int×ByteArray×Tm (N+1))),w.ownsRow b0 111 5 sv sd.length (sd.flatMap fun z=>Cj z.1 z.2)/\w.ownsRow b0 116 6 pv sp.length (sp.flatMap fun z=>BZ z.1 z.2.1 z.2.2)/\w.ownsRow b0 3 1 lv links.length (links.map fun u=> .int .i64 u)/\
  sd.map (fun z=>(z.1,cn _ z.2))=sends/\sp.map (fun z=>(z.1,z.2.1,cn _ z.2.2))=spawns/\(∀z∈sd,aP _ z.2=0/\In w.heap.size w _ z.2/\Off D _ z.2)/\∀z∈sp,aP _ z.2.2=0/\In w.heap.size w _ z.2.2/\Off D _ z.2.2
theorem DkRows.nil {b0:Nat} {D:Nat->Prop} (w:World):DkRows b0 D [] [] [] (.slice none 0 0) (.slice none 0 0) (.slice none 0 0) w:=
 ⟨0,[],[],World.ownsRow_nil _ _ _ _,World.ownsRow_nil _ _ _ _,World.ownsRow_nil _ _ _ _,rfl,rfl,fun z hz=>(by cases hz),fun z hz=>(by cases hz)⟩
def yS (b0 qb:Nat) (name:ByteArray) (room:Int) (ys:List Tc) (ma:Option Addr) (mc:Nat) (Dq:Nat->Prop) (bg:Nat) (tk:Tk) (sv pv lv:Value) (w w':World):Prop:=
 Kee (fun q=>q=qb∨q=bg) w w'/\(∃x',QA qb name room x' ys ma mc (fun b=>Dq b∨w.heap.size<=b) w'/\cn 13 x'=tk.state)/\DkRows b0 (fun b=>Dq b∨w.heap.size<=b) tk.sends tk.spawns tk.links sv pv lv w'
theorem F7 {self:Int} {n:Nat} {l:List (Ac (n+1))} {j:Nat} {a:Ac (n+1)} (h:l[j]? =some a) (d:Dg):mE self (l.drop j) d=(pz self a d).bind (mE self (l.drop (j+1))):=by
 have hl:=(List.getElem?_eq_some_iff.1 h)
 obtain⟨hl,rfl⟩:=hl
 rw[List.drop_eq_getElem_cons hl]
 rfl
theorem Jt (w:World) (o0 o1 o2 o3 o4:Obj):(((((w.alloc o0).alloc o1).alloc o2).alloc o3).alloc o4).heap[w.heap.size]? =some o0/\(((((w.alloc o0).alloc o1).alloc o2).alloc o3).alloc o4).heap[w.heap.size+1]? =some o1/\(((((w.alloc o0).alloc o1).alloc o2).alloc o3).alloc o4).heap[w.heap.size+1+1]? =some o2/\(((((w.alloc o0).alloc o1).alloc o2).alloc o3).alloc o4).heap[w.heap.size+1+1+1]? =some o3/\(((((w.alloc o0).alloc o1).alloc o2).alloc o3).alloc o4).heap[w.heap.size+1+1+1+1]? =some o4/\(((((w.alloc o0).alloc o1).alloc o2).alloc o3).alloc o4).heap.size=w.heap.size+5/\Below w.heap.size w (((((w.alloc o0).alloc o1).alloc o2).alloc o3).alloc o4):=by
 have e0:=heap_alloc_new w o0
 have e1:((w.alloc o0).alloc o1).heap[w.heap.size+1]? =some o1:=by
  have:=heap_alloc_new (w.alloc o0) o1
  rwa [show (w.alloc o0).heap.size=w.heap.size+1 by simp]at this
 have e2:(((w.alloc o0).alloc o1).alloc o2).heap[w.heap.size+1+1]? =some o2:=by
  have:=heap_alloc_new ((w.alloc o0).alloc o1) o2
  rwa [show ((w.alloc o0).alloc o1).heap.size=w.heap.size+1+1 by simp]at this
 have e3:((((w.alloc o0).alloc o1).alloc o2).alloc o3).heap[w.heap.size+1+1+1]? =some o3:=by
  have:=heap_alloc_new (((w.alloc o0).alloc o1).alloc o2) o3
  rwa [show (((w.alloc o0).alloc o1).alloc o2).heap.size=w.heap.size+1+1+1 by simp]at this
 have e4:(((((w.alloc o0).alloc o1).alloc o2).alloc o3).alloc o4).heap[w.heap.size+1+1+1+1]? =some o4:=by
  have:=heap_alloc_new ((((w.alloc o0).alloc o1).alloc o2).alloc o3) o4
  rwa [show ((((w.alloc o0).alloc o1).alloc o2).alloc o3).heap.size=w.heap.size+1+1+1+1 by simp]at this
 have b:∀(W:World) (o o':Obj) (q:Nat),W.heap[q]? =some o'->(W.alloc o).heap[q]? =some o':=fun W o o' q h=>(heap_alloc_old W o (Array.getElem?_eq_some_iff.1 h).1).trans h
 exact⟨b _ _ _ _ (b _ _ _ _ (b _ _ _ _ (b _ _ _ _ e0))),b _ _ _ _ (b _ _ _ _ (b _ _ _ _ e1)),b _ _ _ _ (b _ _ _ _ e2),b _ _ _ _ e3,e4,by simp,by go_grown⟩
theorem E8 {B:List Tc} {self:Int} {n N:Nat} {x:Tm n} {z:Tm (N+1)} {r:Bool} (h1:r=(kF B self n x).isSome) (h2:∀t,kF B self n x=some t->cn (N+1) z=t):(r=true->z.1.1=3->jA B self n x=some z.1.2.1)/\(r=false->jA B self n x=none)/\(z.1.1≠3->jA B self n x=none):=by
 unfold jA
 cases e:kF B self n x with
 | none=>
  rw[e]at h1
  exact⟨fun q=>(by rw[h1]at q;cases q),fun _=>rfl,fun _=>rfl⟩
 | some t=>
  rw[e]at h1
  have h3:=h2 t e
  have h4:t.1=z.1:=by rw[<-h3];rfl
  refine⟨fun _ q=> ?_,fun q=>(by rw[h1]at q;cases q),fun q=> ?_⟩
  ·show (if t.1.1=3 then some t.1.2.1 else none)=_
   rw[h4,if_pos q]
  ·show (if t.1.1=3 then some t.1.2.1 else none)=_
   rw[h4,if_neg q]
theorem Ah:(Tryz.prog.info? 43).map (·.size)=some 8:=by kernel_rfl
theorem dB {W:World} {q:Nat} (vs:List Value) (h8:vs.length=8) (ht:W.there q 0 8):(loadVar 43 ⟨q,0,none⟩).run Tryz.prog (W.setCells q 0 vs)=.ok (.agg vs.toArray) (W.setCells q 0 vs):=
 run_loadVar_mid (P:=Tryz.prog) (W.setCells q 0 vs) q 0 43 vs _ (World.rangeAt_setCells_same W q 0 vs (by rw[h8];exact ht)) Tryz.underlying43 rfl (by rw[h8];exact Ah)
theorem bK {P:Program} {fn:Func} {tmps:Array Value} {w:World} {i:Nat} {ty:TypeId} {p:Addr} {v:Value} (h:fn.results= #[.cell i ty]) (ht:tmps.getD i undef=.pointer (some p)) (hl:(loadVar ty p).run P w=.ok v w):(results fn tmps).run P w=.ok v w:=by
 simp only[results,h]
 rw[Array.getD_eq_getD_getElem?]at ht
 simp[ht,asAddr,hl]
theorem vk {v:Value} {w:World} {o:Obj} {g n c:Nat} (h:v.ownBlock=some g∨g=(w.alloc o).heap.size):∀q,(Value.slice (some ⟨g,0,none⟩) n c).ownBlock=some q->v.ownBlock=some q∨w.heap.size<=q:=by
 intro q hq
 have e:g=q:=Option.some.inj hq
 subst e
 rcases h with h|h
 ·exact Or.inl h
 ·refine Or.inr ?_
  rw[h]
  simp
theorem zQ (l:List Value) (h:l.all (·.oneCell')=true):∀v∈l,v.oneCell'=true:=fun v hv=>List.all_eq_true.1 h v hv
theorem DI:(Tryz.prog.info? 111).map (fun i=>(i.zero,i.size,i.bytes))=some (some (.agg #[.int .i64 0,.int .i64 0,.int .i64 0,.string ⟨#[]⟩,.slice none 0 0]),5,64):=by kernel_rfl
theorem Av:(Tryz.prog.info? 116).map (fun i=>(i.zero,i.size,i.bytes))=some (some (.agg #[.int .i64 0,.string ⟨#[]⟩,.int .i64 0,.int .i64 0,.string ⟨#[]⟩,.slice none 0 0]),6,80):=by kernel_rfl
theorem QA.newst {qb:Nat} {name:ByteArray} {room:Int} {x x':Tc} {ys:List Tc} {ma:Option Addr} {mc:Nat} {D D':Nat->Prop} {w W:World} (h:QA qb name room x ys ma mc D w) (hs:w.heap.size<=W.heap.size) (hq:W.heap[qb]? =some (.cells (Jy name room x' (.slice ma ys.length mc)) 57)) (hb:∀b,D b->b<w.heap.size->W.heap[b]? =w.heap[b]?) (hD:∀b,D b->b<w.heap.size->D' b) (ho:¬D' qb) (hx:In W.heap.size W 13 x'/\Off D' 13 x') (hc:aP 13 x'=0/\ai 13 x'=true):QA qb name room x' ys ma mc D' W:=by
 refine⟨hq,h.cap,hx, ?_,fun y hy=> ?_,ho,h.bounds⟩
 ·rcases h.row with e|⟨b,o,e,hl,hd,hr⟩
  ·exact Or.inl e
  ·refine Or.inr ⟨b,o,e,by omega,hD b hd hl,fun i y hy=> ?_⟩
   obtain⟨k1,k2,k3⟩:=hr i y hy
   exact⟨eG (hb b hd hl) k1,dn hs hb hD ⟨k2,k3⟩⟩
 ·rcases List.mem_cons.1 hy with rfl|hy
  ·exact hc
  ·exact h.ok y (List.mem_cons_of_mem _ hy)
theorem Gd {n:Nat} {a:Ac (n+1)} (h:G6 a):(a.1=1/\aP (n+1) a.2.1.1=0/\aP (n+1) a.2.1.2=0)∨(a.1=2/\aS (n+1) a.2.1.1=true/\aP (n+1) a.2.1.2=0/\0<=a.2.2.2/\a.2.2.2<4)∨(a.1=3/\aP (n+1) a.2.1.1=0/\aS (n+1) a.2.1.2=true)∨(a.1=4/\aS (n+1) a.2.1.1=true/\aS (n+1) a.2.1.2=true):=by
 obtain⟨h1,h2,h3⟩:=h
 unfold iN at h1
 by_cases c1:a.1=1
 ·exact Or.inl ⟨c1,h2 (Or.inl c1),h3 (Or.inl c1)⟩
 rw[if_neg c1]at h1
 by_cases c2:a.1=2
 ·rw[if_pos c2]at h1
  simp only[Bool.and_eq_true,decide_eq_true_eq]at h1
  exact Or.inr (Or.inl ⟨c2,h1.1.1.1,h3 (Or.inr c2),h1.1.2,h1.2⟩)
 rw[if_neg c2]at h1
 by_cases c3:a.1=3
 ·rw[if_pos c3]at h1
  simp only[Bool.and_eq_true]at h1
  exact Or.inr (Or.inr (Or.inl ⟨c3,h2 (Or.inr c3),h1.1⟩))
 rw[if_neg c3]at h1
 by_cases c4:a.1=4
 ·rw[if_pos c4]at h1
  simp only[Bool.and_eq_true]at h1
  exact Or.inr (Or.inr (Or.inr ⟨c4,h1.1.1,h1.1.2⟩))
 rw[if_neg c4]at h1
 cases h1
theorem Jp {qb:Nat} {name:ByteArray} {room f:Int} {x y:Tc} {ys ys':List Tc} {ma:Option Addr} {mc s5 sr rb:Nat} {Dq Pq:Nat->Prop} {w w6:World} {base ob n D k:Nat} {nx:Int} {d:Dg} {l:List (Tm (D+1))} {bg:Nat} {sd:List (Int×Tm (D+1+n+1))} {sp:List (Int×ByteArray×Tm (D+1+n+1))} {sv pv lv:Value} {z:Tm (D+1+n+1)}
    (hK:Kee (fun q=>q=qb∨q=bg) w w6) (hQ:QA qb name room x ys ma mc Dq w) (hB:¬Dq bg) (h6:w6.heap[qb]? =some (.cells (Jy name room x (.slice ma ys.length mc)) 57)) (hA:DaAt (fun q=>(Pq q/\q<base)∨s5<=q) Pq base ob y n D k nx d w6 l bg sd sp sv pv lv)
    (hr:(base<=rb/\rb<s5/\w.heap.size<=rb)/\∃cs,w6.heap[rb]? =some (.cells cs 43)) (hn:qb<w.heap.size/\w.heap.size<=s5/\s5<=sr) (hP:∀b,Pq b->Dq b) (hz:aP _ z=0/\ai _ z=true/\In w6.heap.size w6 _ z/\Off (fun q=>(Pq q/\q<base)∨sr<=q) _ z) (vs:List Value):
    yS base qb name room ys ma mc Dq bg ⟨cn 13 y,f,d.sends,d.spawns,d.links,cn _ z,ys'⟩ sv pv lv w ((bG w6 qb 2 (.int .i64 z.1.1) (.int .i64 z.1.2.1) (.string z.1.2.2) (.slice z.2.1.1 z.2.2.length z.2.1.2)).setCells rb 0 vs):=by
 obtain⟨⟨r1,r2,r3⟩,cs,hrb⟩:=hr
 obtain⟨n1,n2,n3⟩:=hn
 obtain⟨z1,z2,z3,z4⟩:=hz
 generalize hW1:bG w6 qb 2 (.int .i64 z.1.1) (.int .i64 z.1.2.1) (.string z.1.2.2) (.slice z.2.1.1 z.2.2.length z.2.1.2)=W1
 have hk1:Kee (fun q=>q=qb) w6 W1:=by rw[<-hW1];exact jm _ _ _ _ _ _ _
 obtain⟨hk2,hs2⟩:=aJ rb vs 0 W1
 have hk:Kee (fun q=>q=qb∨q=rb) w6 (W1.setCells rb 0 vs):=(hk1.mono fun q _ e=>Or.inl e).trans hk2 fun q _ e=>Or.inr e
 have hne:qb≠rb:=by omega
 have hdq:¬Dq qb:=hQ.out
 have hkw:Kee (fun q=>q=qb∨q=bg) w (W1.setCells rb 0 vs):=hK.trans hk fun b hb e=>by
  rcases e with e|e
  ·exact Or.inl e
  ·omega
 have hb1:W1.heap[qb]? =some (.cells (Jy name room (lift 13 _ z) (.slice ma ys.length mc)) 57):=by
  rw[<-hW1]
  simp[bG,World.setCell,Array.getElem?_modify,h6,Jy,lift]
 have hb2:=(hk2.block qb (Array.getElem?_eq_some_iff.1 hb1).1 hne).trans hb1
 have hzq:∀b,(Pq b/\b<base)∨s5<=b->b≠qb/\b≠rb:=fun b e=>by
  refine⟨fun h=> ?_,fun h=>by omega⟩
  rcases e with e|e
  ·exact hdq (h▸hP b e.1)
  ·omega
 have hlt:w6.heap.size<=(W1.setCells rb 0 vs).heap.size:=hk.size
 obtain⟨l1,l2⟩:=(⟨ax.2 (aN.1 z1).1,by have:=(aN.1 z1).2.1;omega⟩:ak ⟨_,z⟩/\dW _ z<13)
 have hsm:=fJ 13 _ z l1 l2
 have hzt:=dn (w':=W1.setCells rb 0 vs) (D':=fun b=>Dq b∨w.heap.size<=b) hlt (fun b e hl=>hk.block b hl fun q=>(hzq b (e.imp id fun h=>by omega)).elim fun a c=>q.elim a c) (fun b e _=>e.imp (fun h=>hP b h.1) fun h=>by omega) ⟨z3,z4⟩
 have hin:∀{m:Nat} {u:Tm m},In w6.heap.size w6 m u/\Off (fun q=>¬dh ob bg sv pv lv q/\((Pq q/\q<base)∨s5<=q)) m u->In (W1.setCells rb 0 vs).heap.size (W1.setCells rb 0 vs) m u/\Off (fun b=>Dq b∨w.heap.size<=b) m u:=fun h=>dn hlt (fun b e hl=>hk.block b hl fun q=>(hzq b e.2).elim fun a c=>q.elim a c) (fun b e _=>e.2.imp (fun h=>hP b h.1) fun h=>by omega) h
 have hrow:∀{e:TypeId} {sz n:Nat} {v:Value} {xs:List Value},w6.ownsRow base e sz v n xs->e≠57->e≠43->(W1.setCells rb 0 vs).ownsRow base e sz v n xs:=fun h h1 h2=>aL h hk fun b hb q=>by
  rcases q with rfl|rfl
  ·exact dH h h6 h1 hb
  ·exact dH h hrb h2 hb
 refine⟨hkw,⟨lift 13 _ z,hQ.newst hkw.size hb2 (fun b e hl=>hkw.block b hl fun q=> ?_) (fun b e _=>Or.inl e) (fun e=>e.elim hQ.out fun h=>by omega) ⟨mP 13 _ z _ _ l1 l2 hzt.1,lC 13 _ z _ l1 l2 hzt.2⟩ ⟨(bu hsm).trans z1,(bI _ _ _ _ hsm).trans z2⟩,gq hsm⟩,_,sd,sp,hrow hA.sRow (by decide) (by decide),hrow hA.pRow (by decide) (by decide),hrow hA.lRow (by decide) (by decide),hA.sIs,hA.pIs,fun u hu=>⟨(hA.sIn u hu).1,hin (hA.sIn u hu).2⟩,fun u hu=>⟨(hA.pIn u hu).1,hin (hA.pIn u hu).2⟩⟩
 rcases q with rfl|rfl
 ·exact hQ.out e
 ·exact hB e
def I7 (x:An×An):List Value:=kG (iW x.1)++kG (iW x.2)
def aY (l:List (An×An)):List Value:=l.flatMap I7
theorem rJ (l:List (An×An)):(aY l).length=l.length*8:=by
 induction l with
 | nil=>rfl
 | cons a l ih=>
  have:aY (a::l)=I7 a++aY l:=rfl
  rw[this,List.length_append,ih,List.length_cons]
  have:(I7 a).length=8:=rfl
  omega
theorem kU (l r:List (An×An)):aY (l++r)=aY l++aY r:=by simp[aY]
theorem o8 (l:List (An×An)):∀u∈aY l,u.oneCell'=true:=by
 intro u hu
 simp only[aY,List.mem_flatMap]at hu
 obtain⟨a,_,hu⟩:=hu
 simp[I7,kG]at hu
 rcases hu with rfl|rfl|rfl|rfl|rfl|rfl|rfl|rfl<;>rfl
def PrIn (B:Nat) (w:World) (x:An×An):Prop:=(InA B w x.1/\ak x.1)/\InA B w x.2/\ak x.2
def TdAt (B g:Nat) (w:World) (td:List (An×An)) (ta:Option Addr):Prop:=
 (∀x∈td,PrIn B w x)/\(td=[]∨∃h o,ta=some ⟨h,o,none⟩/\B<=h/\h<w.heap.size/\h≠g/\∀j u,(aY td)[j]? =some u->w.cell? ⟨h,o+j,none⟩=some u)
theorem TdAt.grown {B g:Nat} {w w':World} {td:List (An×An)} {ta:Option Addr} (h:TdAt B g w td ta) (hg:w.grownBy w' (some g)) (hB:B<=g) (hgw:g<w.heap.size):TdAt B g w' td ta:=by
 obtain⟨h1,h2⟩:=h
 have hb:=iy hg hB hgw
 refine⟨fun x hx=>⟨⟨(h1 x hx).1.1.below hb,(h1 x hx).1.2⟩,(h1 x hx).2.1.below hb,(h1 x hx).2.2⟩, ?_⟩
 rcases h2 with h2|⟨b,o,e,k1,k2,k3,k4⟩
 ·exact Or.inl h2
 ·exact Or.inr ⟨b,o,e,k1,Nat.lt_of_lt_of_le k2 hg.size,k3,fun j u hj=>(p8 hg b (o+j) k2 k3).trans (k4 j u hj)⟩
theorem TdAt.first {B g:Nat} {w:World} {x:An×An} {td:List (An×An)} {ta:Option Addr} (h:TdAt B g w (x::td) ta):∃h o,ta=some ⟨h,o,none⟩/\B<=h/\h<w.heap.size/\h≠g/\
    (w.cell? ⟨h,o,none⟩=some (.int .i64 (iW x.1).1.1)/\w.cell? ⟨h,o+1,none⟩=some (.int .i64 (iW x.1).1.2.1)/\w.cell? ⟨h,o+2,none⟩=some (.string (iW x.1).1.2.2)/\w.cell? ⟨h,o+3,none⟩=some (.slice (iW x.1).2.1 (iW x.1).2.2.1 (iW x.1).2.2.2))/\
    (w.cell? ⟨h,o+4,none⟩=some (.int .i64 (iW x.2).1.1)/\w.cell? ⟨h,o+4+1,none⟩=some (.int .i64 (iW x.2).1.2.1)/\w.cell? ⟨h,o+4+2,none⟩=some (.string (iW x.2).1.2.2)/\w.cell? ⟨h,o+4+3,none⟩=some (.slice (iW x.2).2.1 (iW x.2).2.2.1 (iW x.2).2.2.2)):=by
 rcases h.2 with h2|⟨b,o,e,k1,k2,k3,k4⟩
 ·cases h2
 ·have e0:aY (x::td)=I7 x++aY td:=rfl
  rw[e0]at k4
  have hc:∀j v,(I7 x)[j]? =some v->w.cell? ⟨b,o+j,none⟩=some v:=fun j v hv=>k4 j v (by
   rw[List.getElem?_append_left (List.getElem?_eq_some_iff.1 hv).1];exact hv)
  exact⟨b,o,e,k1,k2,k3,⟨hc 0 _ rfl,hc 1 _ rfl,hc 2 _ rfl,hc 3 _ rfl⟩,hc 4 _ rfl,hc 5 _ rfl,hc 6 _ rfl,hc 7 _ rfl⟩
theorem TdAt.rest {B g:Nat} {w:World} {x:An×An} {td:List (An×An)} {h o cap:Nat} (k:TdAt B g w (x::td) (some ⟨h,o,none⟩)) (hcap:td.length+1<=cap):
    TdAt B g w td (if cap=1 then some ⟨h,o,none⟩else some ⟨h,o+8,none⟩):=by
 refine⟨fun y hy=>k.1 y (List.mem_cons_of_mem _ hy), ?_⟩
 by_cases hc:cap=1
 ·exact Or.inl (List.eq_nil_of_length_eq_zero (by omega))
 ·rw[if_neg hc]
  rcases k.2 with h2|⟨b,o',e,k1,k2,k3,k4⟩
  ·cases h2
  ·simp at e
   obtain⟨rfl,rfl⟩:=e
   refine Or.inr ⟨h,o+8,rfl,k1,k2,k3,fun j u hj=> ?_⟩
   have e0:aY (x::td)=I7 x++aY td:=rfl
   have:=k4 (8+j) u (by rw[e0,List.getElem?_append_right (by show 8<=8+j;omega)];show (aY td)[8+j-8]? =some u;rw[Nat.add_sub_cancel_left];exact hj)
   rw[show o+8+j=o+(8+j) by omega]
   exact this
def dE (td:List (An×An)):Nat:=(td.map fun x=>(nodes x.1.1 x.1.2).length).sum
theorem zZ (n m:Nat) (p:List (Tm n)) (q:List (Tm m)) (r:List (An×An)):dE (pairs n m p q++r)<=(p.flatMap fun y=>nodes n y).length+dE r:=by
 induction p generalizing q with
 | nil=>simp[pairs,dE]
 | cons x p ih=>
  cases q with
  | nil=>simp[pairs,dE]
  | cons y q=>
   have:=ih q
   simp only[pairs,List.zipWith_cons_cons,List.cons_append,dE,List.map_cons,List.sum_cons,List.flatMap_cons,List.length_append]at this ⊢
   omega
theorem FI {B:Nat} {w:World} {n m:Nat} {x:Tm (n+1)} {y:Tm (m+1)} (h:PrIn B w (⟨n+1,x⟩,⟨m+1,y⟩)):∀z∈pairs n m x.2.2 y.2.2,PrIn B w z:=by
 intro z hz
 simp only[pairs]at hz
 obtain⟨i,hi⟩:=List.getElem?_of_mem hz
 rw[List.getElem?_zipWith]at hi
 cases h1:x.2.2[i]? with
 | none=>rw[h1]at hi;simp at hi
 | some a=>
  cases h2:y.2.2[i]? with
  | none=>rw[h1,h2]at hi;simp at hi
  | some b=>
   rw[h1,h2]at hi
   simp at hi
   subst hi
   exact⟨⟨ru B w n x a h.1.1 (List.mem_of_getElem? h1),aH n x a h.1.2 (List.mem_of_getElem? h1)⟩,ru B w m y b h.2.1 (List.mem_of_getElem? h2),aH m y b h.2.2 (List.mem_of_getElem? h2)⟩
end Go.Proofs.YtbknffhilfoakaaGreat
