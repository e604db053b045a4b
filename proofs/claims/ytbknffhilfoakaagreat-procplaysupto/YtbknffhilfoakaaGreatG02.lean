/- What is proved here: the document's Check, for every term that lies in memory, with at most 2097152 terms in it: it returns what the plain function chk says, and turns no memory that was there. -/
import Derived.Test.YtbknffhilfoakaaGreatG01
import Derived.Deep.Light
namespace Go.Proofs.YtbknffhilfoakaaGreat
open Go.RowKit
set_option maxRecDepth 100000
set_option maxHeartbeats 4000000
theorem gW (x:Nd) {d m:Int} (h:¬(x.1.1=4/\m<d+1)):deeper x d m=m:=if_neg h
theorem gQ (x:Nd) {d m:Int} (h:x.1.1=4/\m<d+1):deeper x d m=d+1:=if_pos h
theorem xh (w:World) (c0 c1:Int) (c2:ByteArray) (xa:Option Addr) (xl xc:Nat) (N:List Nd) (D:List Int) (L:Nat) (z R:Int) (HL:Hid (N.length=L)) (HDL:Hid (D.length=L)) (hL:L<=2097152)
    (HLB:Hid (∀y∈N,y.2.2.1<=9223372036854775807/\y.1.2.2.size<=9223372036854775807)) (HDB:Hid (∀e∈D,0<=e/\e+1<=L)) (HR:Hid (oH z N D 0=R))
    (HALL:Hid (∀w1,Below w.heap.size w w1->Calls Tryz.prog 58 #[.agg #[.int .i64 c0,.int .i64 c1,.string c2,.slice xa xl xc],.int .i64 0] w1 fun e w'=>
     ∃g c h c',e=.returned (.tuple #[.slice (some ⟨g,0,none⟩) L c,.slice (some ⟨h,0,none⟩) L c'])/\
      Hid (g≠h/\Below w1.heap.size w1 w'/\w'.ownsRow w1.heap.size 25 4 (.slice (some ⟨g,0,none⟩) L c) L (aD N)/\w'.ownsRow w1.heap.size 3 1 (.slice (some ⟨h,0,none⟩) L c') L (ints D))))
    (HSZ:Hid (∀w1,Below w.heap.size w w1->Calls Tryz.prog 27 #[.agg #[.int .i64 c0,.int .i64 c1,.string c2,.slice xa xl xc]] w1 fun e w'=>e=.returned (.int .i64 z)/\Below w1.heap.size w1 w')):
    Calls Tryz.prog 31 #[.agg #[.int .i64 c0,.int .i64 c1,.string c2,.slice xa xl xc]] w fun e w'=>e=.returned (.int .i64 R)/\Below w.heap.size w w':=by
 go_enter Tryz.func31,Tryz.ntmps31
 go_wp2_with fail
 refine(HALL.out _ ((Below.refl _ _).alloc (Nat.le_refl _) _)).mono ?_
 rintro e w1 ⟨g,c,h,c',rfl,HO⟩
 have HB1:Hid (Below w.heap.size w w1/\w.heap.size+1<=w1.heap.size/\(∀o,w1.cell? ⟨w.heap.size,o,none⟩=(w.alloc (.cells #[.int .i64 c0,.int .i64 c1,.string c2,.slice xa xl xc] 25)).cell? ⟨w.heap.size,o,none⟩)):=by
  have hb:=HO.out.2.1
  refine⟨((Below.refl _ _).alloc (Nat.le_refl _) _).trans (hb.mono (by simp)),by have:=hb.size;simp at this;omega,fun o=>hb.cell (p:=⟨w.heap.size,o,none⟩) (by simp)⟩
 have HOW:Hid (w.heap.size<g/\w.heap.size<h/\w1.ownsRow (w.heap.size+1) 25 4 (.slice (some ⟨g,0,none⟩) L c) L (aD N)/\w1.ownsRow (w.heap.size+1) 3 1 (.slice (some ⟨h,0,none⟩) L c') L (ints D)):=by
  obtain⟨_,_,o1,o2⟩:=HO.out
  have e:(w.alloc (.cells #[.int .i64 c0,.int .i64 c1,.string c2,.slice xa xl xc] 25)).heap.size=w.heap.size+1:=by simp
  rw[e]at o1 o2
  exact⟨(jB o1).1,(jB o2).1,o1,o2⟩
 clear HO
 have b0:w1.cell? ⟨w.heap.size,0,none⟩=some (.int .i64 c0):=(HB1.out.2.2 0).trans (by simp[go_sem])
 have b1:w1.cell? ⟨w.heap.size,1,none⟩=some (.int .i64 c1):=(HB1.out.2.2 1).trans (by simp[go_sem])
 have b2:w1.cell? ⟨w.heap.size,2,none⟩=some (.string c2):=(HB1.out.2.2 2).trans (by simp[go_sem])
 have b3:w1.cell? ⟨w.heap.size,3,none⟩=some (.slice xa xl xc):=(HB1.out.2.2 3).trans (by simp[go_sem])
 go_wp2_with fail
 go_loopw [5,6] (fun dp i wr=>∃k:Nat,∃m:Int,k<=L/\i=.int .i64 k/\dp=.int .i64 m/\0<=m/\m<=2097152/\Hid (oH z (N.drop k) (D.drop k) m=R)/\Hid (Below w1.heap.size w1 wr)) (fun _ i _=>L-(intOf i).toNat)
 case atStart=>exact⟨0,0,by omega,rfl,rfl,by omega,by omega,HR,Below.refl _ _⟩
 case round=>
  obtain⟨k,m,hk,rfl,rfl,hm0,hm1,HC,HB⟩:=hrel
  by_cases hlt:k<L
  ·obtain⟨x,hx⟩:∃x,N[k]? =some x:=⟨N[k]'(by rw[HL.out];exact hlt),List.getElem?_eq_getElem _⟩
   obtain⟨d,hd⟩:∃d,D[k]? =some d:=⟨D[k]'(by rw[HDL.out];exact hlt),List.getElem?_eq_getElem _⟩
   have HS:=hide (DJ z N D m k x d hx hd)
   obtain⟨x0,x1,x2,x3⟩:=oC (own_below HOW.out.2.2.1 HB.out) k x hx
   have y0:=Hl (own_below HOW.out.2.2.2 HB.out) k d hd
   have hdb:=HDB.out d (List.mem_of_getElem? hd)
   have hlb:=HLB.out x (List.mem_of_getElem? hx)
   obtain⟨⟨kk,uu,ss⟩,⟨aa,ll,cc⟩⟩:=x
   clear hx hd
   simp only at x0 x1 x2 x3 hlb
   obtain⟨hd0,hd1⟩:=hdb
   obtain⟨hl0,hs0⟩:=hlb
   have hgw:g<wr.heap.size:=by have:=(jB (own_below HOW.out.2.2.1 HB.out)).2;exact this
   have hhw:h<wr.heap.size:=by have:=(jB (own_below HOW.out.2.2.2 HB.out)).2;exact this
   have hk1:(0:Int)<=(k:Int):=by omega
   have hk2:(k:Int)<(L:Int):=by omega
   have HF:Hid (good ((kk,uu,ss),(aa,ll,cc))=false->5=R):=fun hg=>by rw[<-HC.out,HS.out,hg];rfl
   have HG:Hid (good ((kk,uu,ss),(aa,ll,cc))=true->oH z (N.drop (k+1)) (D.drop (k+1)) (deeper ((kk,uu,ss),(aa,ll,cc)) d m)=R):=fun hg=>by rw[<-HC.out,HS.out,hg];rfl
   have HBW:Hid (Below w.heap.size w wr/\w.heap.size<=wr.heap.size):=⟨HB1.out.1.trans (HB.out.mono HB1.out.1.size),(HB1.out.1.trans (HB.out.mono HB1.out.1.size)).size⟩
   have HBA:Hid (∀o,Below w1.heap.size w1 (wr.alloc o)):=fun o=>HB.out.alloc HB.out.size o
   clear HS HC HB
   by_cases k1:kk=1
   ·subst k1
    go_wp2_with (first|(go_at_call 9;refine(fe _ _ _ _).mono ?_;rintro e w' ⟨rfl,rfl⟩)|(go_at_call 25;refine(fP _ _ (by assumption)).mono ?_;rintro e w' ⟨rfl,rfl⟩))
    all_goals first
     | (go_ret
        refine⟨bA (HF.out ?_),HBW.out.1.alloc HBW.out.2 _⟩
        go_light
        simp[good, *]
        done)
     | (go_roundw
        case rel=>
         refine⟨k+1,m,by omega,by go_num,rfl,hm0,hm1,hide ?_,HBA.out _⟩
         have hg:=HG.out (by go_light;simp[good, *];done)
         go_light
         rw[gW _ (by dsimp only;omega)]at hg
         exact hg
        case measure=>simp[intOf];omega)
     | (go_roundw
        case rel=>
         refine⟨k+1,d+1,by omega,by go_num,rfl,by omega,by omega,hide ?_,HBA.out _⟩
         have hg:=HG.out (by go_light;simp[good, *];done)
         go_light
         rw[gQ _ (by dsimp only;omega)]at hg
         exact hg
        case measure=>simp[intOf];omega)
   by_cases k2:kk=2
   ·subst k2
    go_wp2_with (first|(go_at_call 9;refine(fe _ _ _ _).mono ?_;rintro e w' ⟨rfl,rfl⟩)|(go_at_call 25;refine(fP _ _ (by assumption)).mono ?_;rintro e w' ⟨rfl,rfl⟩))
    all_goals first
     | (go_ret
        refine⟨bA (HF.out ?_),HBW.out.1.alloc HBW.out.2 _⟩
        go_light
        simp[good, *]
        done)
     | (go_roundw
        case rel=>
         refine⟨k+1,m,by omega,by go_num,rfl,hm0,hm1,hide ?_,HBA.out _⟩
         have hg:=HG.out (by go_light;simp[good, *];done)
         go_light
         rw[gW _ (by dsimp only;omega)]at hg
         exact hg
        case measure=>simp[intOf];omega)
     | (go_roundw
        case rel=>
         refine⟨k+1,d+1,by omega,by go_num,rfl,by omega,by omega,hide ?_,HBA.out _⟩
         have hg:=HG.out (by go_light;simp[good, *];done)
         go_light
         rw[gQ _ (by dsimp only;omega)]at hg
         exact hg
        case measure=>simp[intOf];omega)
   by_cases k3:kk=3
   ·subst k3
    go_wp2_with (first|(go_at_call 9;refine(fe _ _ _ _).mono ?_;rintro e w' ⟨rfl,rfl⟩)|(go_at_call 25;refine(fP _ _ (by assumption)).mono ?_;rintro e w' ⟨rfl,rfl⟩))
    all_goals first
     | (go_ret
        refine⟨bA (HF.out ?_),HBW.out.1.alloc HBW.out.2 _⟩
        go_light
        simp[good, *]
        done)
     | (go_roundw
        case rel=>
         refine⟨k+1,m,by omega,by go_num,rfl,hm0,hm1,hide ?_,HBA.out _⟩
         have hg:=HG.out (by go_light;simp[good, *];done)
         go_light
         rw[gW _ (by dsimp only;omega)]at hg
         exact hg
        case measure=>simp[intOf];omega)
     | (go_roundw
        case rel=>
         refine⟨k+1,d+1,by omega,by go_num,rfl,by omega,by omega,hide ?_,HBA.out _⟩
         have hg:=HG.out (by go_light;simp[good, *];done)
         go_light
         rw[gQ _ (by dsimp only;omega)]at hg
         exact hg
        case measure=>simp[intOf];omega)
   by_cases k4:kk=4
   ·subst k4
    go_wp2_with (first|(go_at_call 9;refine(fe _ _ _ _).mono ?_;rintro e w' ⟨rfl,rfl⟩)|(go_at_call 25;refine(fP _ _ (by assumption)).mono ?_;rintro e w' ⟨rfl,rfl⟩))
    all_goals first
     | (go_ret
        refine⟨bA (HF.out ?_),HBW.out.1.alloc HBW.out.2 _⟩
        go_light
        simp[good, *]
        done)
     | (go_roundw
        case rel=>
         refine⟨k+1,m,by omega,by go_num,rfl,hm0,hm1,hide ?_,HBA.out _⟩
         have hg:=HG.out (by go_light;simp[good, *];done)
         go_light
         rw[gW _ (by dsimp only;omega)]at hg
         exact hg
        case measure=>simp[intOf];omega)
     | (go_roundw
        case rel=>
         refine⟨k+1,d+1,by omega,by go_num,rfl,by omega,by omega,hide ?_,HBA.out _⟩
         have hg:=HG.out (by go_light;simp[good, *];done)
         go_light
         rw[gQ _ (by dsimp only;omega)]at hg
         exact hg
        case measure=>simp[intOf];omega)
   by_cases k5:kk=5
   ·subst k5
    go_wp2_with (first|(go_at_call 9;refine(fe _ _ _ _).mono ?_;rintro e w' ⟨rfl,rfl⟩)|(go_at_call 25;refine(fP _ _ (by assumption)).mono ?_;rintro e w' ⟨rfl,rfl⟩))
    all_goals first
     | (go_ret
        refine⟨bA (HF.out ?_),HBW.out.1.alloc HBW.out.2 _⟩
        go_light
        simp[good, *]
        done)
     | (go_roundw
        case rel=>
         refine⟨k+1,m,by omega,by go_num,rfl,hm0,hm1,hide ?_,HBA.out _⟩
         have hg:=HG.out (by go_light;simp[good, *];done)
         go_light
         rw[gW _ (by dsimp only;omega)]at hg
         exact hg
        case measure=>simp[intOf];omega)
     | (go_roundw
        case rel=>
         refine⟨k+1,d+1,by omega,by go_num,rfl,by omega,by omega,hide ?_,HBA.out _⟩
         have hg:=HG.out (by go_light;simp[good, *];done)
         go_light
         rw[gQ _ (by dsimp only;omega)]at hg
         exact hg
        case measure=>simp[intOf];omega)
   by_cases k6:kk=6
   ·subst k6
    go_wp2_with (first|(go_at_call 9;refine(fe _ _ _ _).mono ?_;rintro e w' ⟨rfl,rfl⟩)|(go_at_call 25;refine(fP _ _ (by assumption)).mono ?_;rintro e w' ⟨rfl,rfl⟩))
    all_goals first
     | (go_ret
        refine⟨bA (HF.out ?_),HBW.out.1.alloc HBW.out.2 _⟩
        go_light
        simp[good, *]
        done)
     | (go_roundw
        case rel=>
         refine⟨k+1,m,by omega,by go_num,rfl,hm0,hm1,hide ?_,HBA.out _⟩
         have hg:=HG.out (by go_light;simp[good, *];done)
         go_light
         rw[gW _ (by dsimp only;omega)]at hg
         exact hg
        case measure=>simp[intOf];omega)
     | (go_roundw
        case rel=>
         refine⟨k+1,d+1,by omega,by go_num,rfl,by omega,by omega,hide ?_,HBA.out _⟩
         have hg:=HG.out (by go_light;simp[good, *];done)
         go_light
         rw[gQ _ (by dsimp only;omega)]at hg
         exact hg
        case measure=>simp[intOf];omega)
   have e1:(kk==1)=false:=by simpa using k1
   have e2:(kk==2)=false:=by simpa using k2
   have e3:(kk==3)=false:=by simpa using k3
   have e4:(kk==4)=false:=by simpa using k4
   have e5:(kk==5)=false:=by simpa using k5
   have e6:(kk==6)=false:=by simpa using k6
   have HE:Hid (good ((kk,uu,ss),(aa,ll,cc))=false):=by simp[good,Hid,k1,k2,k3,k4,k5,k6]
   clear k1 k2 k3 k4 k5 k6
   go_wp2_with fail
   all_goals
    go_ret
    exact⟨bA (HF.out HE.out),HBW.out.1.alloc HBW.out.2 _⟩
  ·have HZ:Hid ((if 12<m∨200<z then 2 else 0)=R):=by rw[<-HC.out,Ga z N D m k (by rw[HL.out];omega)];rfl
   have HBW:Hid (Below w.heap.size w wr):=HB1.out.1.trans (HB.out.mono HB1.out.1.size)
   have hcc:=ag HB.out
   have hw1:w.heap.size<w1.heap.size:=by have:=HB1.out.2.1;omega
   have c0':=(hcc w.heap.size 0 hw1).trans b0
   have c1':=(hcc w.heap.size 1 hw1).trans b1
   have c2':=(hcc w.heap.size 2 hw1).trans b2
   have c3':=(hcc w.heap.size 3 hw1).trans b3
   clear hcc b0 b1 b2 b3 hw1
   by_cases h12:12<m
   ·go_wp2_with fail
    go_ret
    exact⟨bA (by rw[<-HZ.out,if_pos (Or.inl h12)]),HBW.out⟩
   ·have H12:=hide h12
    go_wp2_with fail
    refine(HSZ.out _ HBW.out).mono ?_
    rintro e w2 ⟨rfl,hb2⟩
    have HB2:Hid (Below w.heap.size w w2):=HBW.out.trans (hb2.mono HBW.out.size)
    by_cases hz:200<z
    ·have HZ2:=hide hz
     go_wp2_with fail
     go_ret
     exact⟨bA (by rw[<-HZ.out,if_pos (Or.inr HZ2.out)]),HB2.out⟩
    ·have HZ2:=hide hz
     go_wp2_with fail
     go_ret
     exact⟨bA (by rw[<-HZ.out,if_neg (by have:=H12.out;have:=HZ2.out;omega)]),HB2.out⟩
end Go.Proofs.YtbknffhilfoakaaGreat
