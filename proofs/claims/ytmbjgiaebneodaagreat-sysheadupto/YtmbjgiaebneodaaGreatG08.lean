/- What is proved here: term.Copy and term.CopyAll of right terms that lie in memory: what they return is the same, and lies in new memory alone; no memory that was there is turned. No condition but those. -/
import Derived.Test.YtmbjgiaebneodaaGreatG06
import Derived.Test.YtmbjgiaebneodaaGreatG07
namespace Go.Proofs.YtmbjgiaebneodaaGreat
open Go.RowKit
set_option maxHeartbeats 1000000
theorem cB (s:ByteArray) (w:World) (hs:s.size<=2048):
    Calls Tryz.prog 52 #[.string s] w fun e w'=>e=.returned (.string s)/\Below w.heap.size w w':=by
 go_enter Tryz.func52,Tryz.ntmps52
 go_wp2_with (go_at_call 79;refine(Tryz.stringslite_Clone s w (by omega)).mono ?_;rintro e w' ⟨rfl,hb⟩)
 go_ret
 exact⟨rfl,hb⟩
theorem jV (a:Option Addr) (pc:Nat) (w:World):
    Calls Tryz.prog 68 #[.slice a 0 pc] w fun e w'=>e=.returned (.slice none 0 0)/\w'=w:=by
 go_enter Tryz.func68,Tryz.ntmps68
 go_wp2_with fail
 go_ret
 exact⟨rfl,rfl⟩
theorem qd (n:Nat) (p:List (Tm n)) (len:Nat) {w w1:World} (h:w1.ownsRow w.heap.size 30 4 (.slice (some ⟨w.heap.size,0,none⟩) len len) len (madeCells (Value.agg #[.int .i64 0,.int .i64 0,.string .empty,.slice none 0 0]).cells (len*4)).toList):CpP n p len w.heap.size 0 [] w1:=by
 refine⟨rfl, ?_,(fun y hy=>by cases hy),rfl⟩
 have e:(madeCells (Value.agg #[.int .i64 0,.int .i64 0,.string .empty,.slice none 0 0]).cells (len*4)).toList=eH (List.replicate len zA):=Ib len
 rw[e]at h
 unfold Has
 simpa using h
theorem zM (n:Nat) (ih:QM n) (p:List (Tm n)) (len:Nat) (hpl:Hid (p.length=len)) (pb po pc:Nat) (B:Nat) (w:World)
    (h0:0<len) (hlen:len<=1048576) (hpb:pb<B) (hp:∀(i:Nat) (y:Tm n),p[i]? =some y->Held w pb (po+i*4) n y/\In B w n y)
    (hrp:∀y∈p,ai ⟨n,y⟩) (hB:B<=w.heap.size):
    Calls Tryz.prog 68 #[.slice (some ⟨pb,po,none⟩) len pc] w fun e w'=>∃l,e=.returned (.slice (some ⟨w.heap.size,0,none⟩) len len)/\Hid (CpRow n p w w' (some ⟨w.heap.size,0,none⟩) len l):=by
 obtain⟨it,hit,htz0,htz1,htz2⟩:=info_parts gu
 have hl0:((len:Int)==0)=false:=by simp;omega
 go_enter Tryz.func68,Tryz.ntmps68
 go_wp2_with (at_make;refine wpList_make_full _ rfl _ _ 28 rfl w.heap.size 30 it _ 4 Tryz.underlying28 hit htz0 htz1 _ _ _ _ len rfl rfl rfl rfl (by rw[htz2];omega) (by unfold maxLen;omega) (Nat.le_refl _) ?_;intro w0 hown0 hgrow0)
 have HS0:=hide (qd n p len hown0)
 have HB0:Hid (Below w.heap.size w w0):=⟨hgrow0.os,hgrow0.tape,hgrow0.output,hgrow0.size,fun k hk=>hgrow0.block k hk (by simp)⟩
 clear hown0 hgrow0 hit htz0 htz1 htz2
 go_wp2_with fail
 go_loopw [14] (fun i wr=>∃k:Nat,k<=len/\i=.int .i64 k/\Hid (Below w.heap.size w wr/\∃l,CpP n p len w.heap.size k l wr)) (fun i _=>len-(intOf i).toNat)
 case atStart=>exact⟨0,by omega,rfl,HB0.out,[],HS0.out⟩
 case round=>
  obtain⟨k,hk,rfl,HR⟩:=hrel
  obtain⟨HBr,l,HL⟩:Hid (Below w.heap.size w wr)/\∃l,Hid (CpP n p len w.heap.size k l wr):=HR.out
  clear HR
  by_cases hlt:k<len
  ·obtain⟨x,hx⟩:∃x,p[k]? =some x:=⟨p[k]'(by rw[hpl.out];exact hlt),List.getElem?_eq_getElem _⟩
   obtain⟨hx1,hx2⟩:=hp k x hx
   have HX:=hide hx
   have HRX:=hide (hrp x (List.mem_of_getElem? hx))
   replace hx1:=hx1.below (HBr.out.mono hB) hpb
   replace hx2:=hx2.below (HBr.out.mono hB)
   have hgr:w.heap.size<wr.heap.size:=HL.out.2.1.lt.2
   have hB':B<=wr.heap.size:=by omega
   clear hp hx hrp HS0 HB0
   cases n with
   | zero=>exact hx1.elim
   | succ n=>
   obtain⟨x0,x1,x2,x3⟩:=hx1
   have HC:Hid (∀(w1:World),Below wr.heap.size wr w1->Calls Tryz.prog 45 #[.agg #[.int .i64 x.1.1,.int .i64 x.1.2.1,.string x.1.2.2,.slice x.2.1.1 x.2.2.length x.2.1.2]] w1 fun e w'=>∃y:Tm (n+1),e=.returned (val (n+1) y)/\Hid (Below w1.heap.size w1 w'/\In w'.heap.size w' (n+1) y/\Off (fun q=>w1.heap.size<=q) (n+1) y/\same (n+1) y (n+1) x=true)):=
    fun w1 h1=>ih x B w1 (hx2.below (h1.mono hB')) (Nat.le_trans hB' h1.size) HRX.out
   clear ih hx2 HRX
   generalize x.2.2.length=xl at*
   have hk1:(0:Int)<=(k:Int):=by omega
   have hk2:(k:Int)<(len:Int):=by omega
   have hpw:pb<wr.heap.size:=by omega
   go_wp2_with fail
   refine(HC.out _ ((Below.refl _ _).alloc (Nat.le_refl _) _)).mono ?_
   rintro e w1 ⟨y,rfl,HY⟩
   have HB1:Hid (Below wr.heap.size wr w1):=((Below.refl _ _).alloc (Nat.le_refl _) _).trans (HY.out.1.mono (by simp))
   have HST:=hide (HL.out.step hlt x HX.out HB1.out y HY.out.2.1 (HY.out.2.2.1.mono fun q hq=>by simp at hq;omega) HY.out.2.2.2)
   have HH1:=hide (HL.out.2.1.below HB1.out)
   have HB2:Hid (Below w.heap.size w (iJ w1 w.heap.size (k*4) (gZ (n+1) y))):=by
    have h1:=HBr.out.trans (HB1.out.mono (Nat.le_of_lt hgr))
    exact⟨h1.os,h1.tape,h1.output,Nat.le_trans h1.size (Nat.le_of_eq (aJ _ _ _ _).symm),fun q hq=>(aA (by omega) _ _ _ _).trans (h1.block q hq)⟩
   obtain⟨z,hz⟩:∃z,(l.map (fun x=>(⟨n+1,x⟩:An))++List.replicate (len-k) zA)[k]? =some z:=⟨_,List.getElem?_eq_getElem (by simp[HL.out.1];omega)⟩
   obtain⟨c0,c1,c2,c3⟩:=HH1.out.cells k z hz
   have hf:=fun j=>HH1.out.free j
   have e3:val (n+1) y=.agg #[.int .i64 y.1.1,.int .i64 y.1.2.1,.string y.1.2.2,.slice y.2.1.1 y.2.2.length y.2.1.2]:=rfl
   rw[e3]
   clear HC HL HBr HY HB1 HH1 x0 x1 x2 x3 hz e3
   go_wp2_with fail
   go_roundw
   case rel=>exact⟨k+1,by omega,by go_num,HB2.out,l++ [y],HST.out⟩
   case measure=>simp[intOf];omega
  ·have HD:=hide (HL.out.done hpl.out (by omega) HBr.out (by unfold maxLen;omega))
   clear HL hp
   go_wp2_with fail
   go_ret
   exact⟨l,rfl,HD.out⟩
def QP (n:Nat):Prop:=∀(p:List (Tm n)) (a:Option Addr) (pc B:Nat) (w:World),(p=[]∨∃b o,a=some ⟨b,o,none⟩/\b<B/\∀(i:Nat) (y:Tm n),p[i]? =some y->Held w b (o+i*4) n y/\In B w n y)->p.length<=1048576->(∀y∈p,ai ⟨n,y⟩)->B<=w.heap.size->
 Calls Tryz.prog 68 #[.slice a p.length pc] w fun e w'=>∃a' c' l,e=.returned (.slice a' p.length c')/\Hid (CpRow n p w w' a' c' l)
theorem sP (n:Nat) (ih:QM n):QP n:=by
 intro p a pc B w hp hl hr hB
 rcases hp with hp|⟨b,o,rfl,hb,hp⟩
 ·subst hp
  refine(jV a pc w).mono ?_
  rintro e w' ⟨rfl,rfl⟩
  exact⟨none,0,[],rfl,Below.refl _ _,rfl,Nat.le_refl _,Nat.zero_le _,rfl,Or.inl rfl⟩
 ·by_cases h0:p.length=0
  ·have:p=[]:=List.eq_nil_of_length_eq_zero h0
   subst this
   refine(jV _ pc w).mono ?_
   rintro e w' ⟨rfl,rfl⟩
   exact⟨none,0,[],rfl,Below.refl _ _,rfl,Nat.le_refl _,Nat.zero_le _,rfl,Or.inl rfl⟩
  ·refine(zM n ih p p.length rfl b o pc B w (by omega) hl hb hp hr hB).mono ?_
   rintro e w' ⟨l,rfl,H⟩
   exact⟨_,_,l,rfl,H⟩
theorem GL {w w1:World} {o1 o2:Obj} (h:Below ((w.alloc o1).alloc o2).drew.heap.size ((w.alloc o1).alloc o2).drew w1):Below w.heap.size w w1/\w.heap.size<w1.heap.size/\w.heap.size+1<w1.heap.size:=by
 have h2:Below w.heap.size w ((w.alloc o1).alloc o2).drew:=(((Below.refl _ _).alloc (Nat.le_refl _) _).alloc (by simp) _).drew
 have h3:=h.size
 have e:((w.alloc o1).alloc o2).drew.heap.size=w.heap.size+2:=by simp[World.drew]
 exact⟨h2.trans (h.mono h2.size),by omega,by omega⟩
theorem fq {B:Nat} {w w1:World} (h:Below B w w1):∀b o,b<B->w1.frozen? ⟨b,o,none⟩=w.frozen? ⟨b,o,none⟩:=fun b o hb=>h.frozen (p:=⟨b,o,none⟩) hb
theorem G8 {w w':World} {v0 v1 v2 v3 u0 u1 u2 u3:Value} {t t':TypeId} (hb:Below ((w.alloc (.cells #[v0,v1,v2,v3] t)).alloc (.cells #[u0,u1,u2,u3] t')).drew.heap.size ((w.alloc (.cells #[v0,v1,v2,v3] t)).alloc (.cells #[u0,u1,u2,u3] t')).drew w'):
    (w'.cell? ⟨w.heap.size,0,none⟩=some v0/\w'.cell? ⟨w.heap.size,1,none⟩=some v1/\w'.cell? ⟨w.heap.size,2,none⟩=some v2/\w'.cell? ⟨w.heap.size,3,none⟩=some v3)/\
    w'.cell? ⟨w.heap.size+1,0,none⟩=some u0/\w'.cell? ⟨w.heap.size+1,1,none⟩=some u1/\w'.cell? ⟨w.heap.size+1,2,none⟩=some u2/\w'.cell? ⟨w.heap.size+1,3,none⟩=some u3/\
    w'.frozen? ⟨w.heap.size+1,0,none⟩=false/\w'.frozen? ⟨w.heap.size+1,1,none⟩=false/\w'.frozen? ⟨w.heap.size+1,2,none⟩=false/\w'.frozen? ⟨w.heap.size+1,3,none⟩=false:=by
 have hc:=fun o=>hb.cell (p:=⟨w.heap.size,o,none⟩) (by simp[World.drew];try omega)
 have hd:=fun o=>hb.cell (p:=⟨w.heap.size+1,o,none⟩) (by simp[World.drew];try omega)
 have hf:=fun o=>hb.frozen (p:=⟨w.heap.size+1,o,none⟩) (by simp[World.drew];try omega)
 exact⟨⟨(hc 0).trans (by simp[go_sem]),(hc 1).trans (by simp[go_sem]),(hc 2).trans (by simp[go_sem]),(hc 3).trans (by simp[go_sem])⟩,(hd 0).trans (by simp[go_sem]),(hd 1).trans (by simp[go_sem]),(hd 2).trans (by simp[go_sem]),(hd 3).trans (by simp[go_sem]),(hf 0).trans (by simp[go_sem]),(hf 1).trans (by simp[go_sem]),(hf 2).trans (by simp[go_sem]),(hf 3).trans (by simp[go_sem])⟩
theorem ET {w1 w2:World} {q:Nat} {u0 u1 u2 u3:Value} (hq:q<w1.heap.size) (h:Below w1.heap.size w1 w2)
    (k:w1.cell? ⟨q,0,none⟩=some u0/\w1.cell? ⟨q,1,none⟩=some u1/\w1.cell? ⟨q,2,none⟩=some u2/\w1.cell? ⟨q,3,none⟩=some u3/\
    w1.frozen? ⟨q,0,none⟩=false/\w1.frozen? ⟨q,1,none⟩=false/\w1.frozen? ⟨q,2,none⟩=false/\w1.frozen? ⟨q,3,none⟩=false):
    w2.cell? ⟨q,0,none⟩=some u0/\w2.cell? ⟨q,1,none⟩=some u1/\w2.cell? ⟨q,2,none⟩=some u2/\w2.cell? ⟨q,3,none⟩=some u3/\
    w2.frozen? ⟨q,0,none⟩=false/\w2.frozen? ⟨q,1,none⟩=false/\w2.frozen? ⟨q,2,none⟩=false/\w2.frozen? ⟨q,3,none⟩=false:=by
 obtain⟨b0,b1,b2,b3,d0,d1,d2,d3⟩:=k
 have hcc:=af h
 have hff:=fq h
 exact⟨(hcc _ _ hq).trans b0,(hcc _ _ hq).trans b1,(hcc _ _ hq).trans b2,(hcc _ _ hq).trans b3,(hff _ _ hq).trans d0,(hff _ _ hq).trans d1,(hff _ _ hq).trans d2,(hff _ _ hq).trans d3⟩
theorem CpRow.box {n:Nat} {p:List (Tm n)} {w w1 w2:World} {a:Option Addr} {c:Nat} {l:List (Tm n)} (h:CpRow n p w1 w2 a c l) (hb:Below w.heap.size w w1) (hq:w.heap.size+1<w1.heap.size) (v0 v1 v2 v3:Value):
    CpRow n p w (bK w2 (w.heap.size+1) 0 v0 v1 v2 v3) a c l:=by
 obtain⟨h1,h2,h3,h4,h5,h6⟩:=h
 have hb2:=hb.trans (h1.mono hb.size)
 have hbs:=hb.size
 refine⟨⟨hb2.os,hb2.tape,hb2.output,Nat.le_trans hb2.size (Nat.le_of_eq (aJ _ _ _ _).symm),fun q hq=>(aA (by omega) _ _ _ _).trans (hb2.block q hq)⟩,h2,h3,h4,h5, ?_⟩
 rcases h6 with h6|⟨b,o,e,hb3,hb4,h6⟩
 ·exact Or.inl h6
 ·refine Or.inr ⟨b,o,e,⟨by omega,hb3.2.1,fun j=> ?_,hb3.2.2.2⟩,by rw[aJ];exact hb4,fun i y hy=> ?_⟩
  ·have hf:=hb3.2.2.1 j
   unfold World.frozen? at hf ⊢
   rw[aA (w:=w2) (g:=w.heap.size+1) (b:=b) (o:=0) (by omega) v0 v1 v2 v3]
   exact hf
  obtain⟨k1,k2,k3⟩:=h6 i y hy
  refine⟨k1.block (aA (by omega) _ _ _ _), ?_,k3.mono fun q hq=>by omega⟩
  rw[aJ]
  exact In.off (fun q hq=>aA (by omega) _ _ _ _) k3 k2
theorem ky (x:Nd) (h:good x=true):x.2.2.1<=8:=by
 by_cases h4:x.1.1=4
 ·simp[good,h4]at h
  omega
 ·have:=(dD x h).2.2.2.2 h4
  omega
theorem rF (x:Nd) (h:good x=true):x.1.2.2.size<=8:=by
 by_cases h2:x.1.1=2
 ·simp[good,h2,bq,kr]at h
  omega
 ·have h1:=(dD x h).1 h2
  have h3:x.1.2.2.data.toList=[]:=by rw[ByteArray.toList_eq]at h1;exact h1
  have:x.1.2.2.size=0:=by
   have e:x.1.2.2.size=x.1.2.2.data.toList.length:=by rw[Array.length_toList];rfl
   rw[e,h3];rfl
  omega
theorem qX (n:Nat) (k u:Int) (s:ByteArray) (a:Option Addr) (len pc:Nat) (p:List (Tm n)) (w:World) (hs:s.size<=2048)
    (HA:Hid (∀w1,Below w.heap.size w w1->Calls Tryz.prog 68 #[.slice a len pc] w1 fun e w'=>∃a' c' l,e=.returned (.slice a' len c')/\Hid (CpRow n p w1 w' a' c' l))):
    Calls Tryz.prog 45 #[.agg #[.int .i64 k,.int .i64 u,.string s,.slice a len pc]] w fun e w'=>∃a' c' l,e=.returned (.agg #[.int .i64 k,.int .i64 u,.string s,.slice a' len c'])/\Hid (CpRow n p w w' a' c' l):=by
 go_enter Tryz.func45,Tryz.ntmps45
 go_wp2_with fail
 go_region_held3 (fun w'=>w'.cell? ⟨w.heap.size,0,none⟩=some (.int .i64 k)/\w'.cell? ⟨w.heap.size,1,none⟩=some (.int .i64 u)/\w'.cell? ⟨w.heap.size,2,none⟩=some (.string s)/\w'.cell? ⟨w.heap.size,3,none⟩=some (.slice a len pc)) (go_keep) ((first|(go_at_call 52;refine(cB s _ hs).mono ?_;rintro e w1 ⟨rfl,hb1⟩;have HB1:=hide (GL hb1);have HT2:=hide (G8 hb1);have a0:=HT2.out.1.1;have a1:=HT2.out.1.2.1;have a2:=HT2.out.1.2.2.1;have a3:=HT2.out.1.2.2.2;clear hb1)|(go_at_call 68;refine(HA.out _ HB1.out.1).mono ?_;rintro e w2 ⟨a',c',l,rfl,HC⟩;have HT3:=hide (ET HB1.out.2.2 HC.out.1 HT2.out.2);obtain⟨b0,b1,b2,b3,d0,d1,d2,d3⟩:=HT3.out;obtain⟨a4,a5,a6,a7⟩:=lU HB1.out.2.1 HC.out.1 HT2.out.1)))
 have HF:=hide (HC.out.box HB1.out.1 HB1.out.2.2 (.int .i64 k) (.int .i64 u) (.string s) (.slice a' len c'))
 clear HC HB1 HT2 HT3 a0 a1 a2 a3 a4 a5 a6 a7
 go_wp2_with fail
 exact bodyPost_ret (v:=.agg #[.int .i64 k,.int .i64 u,.string s,.slice a' len c']) (by simp[results,Tryz.results45,go_sem,b0,b1,b2,b3]) rfl ⟨a',c',l,rfl,HF.out⟩
theorem fV (n:Nat):QM n:=by
 induction n with
 | zero=>intro x B w hx;exact hx.elim
 | succ n ih=>
  intro x B w hx hB hr
  have hx2:=hx
  obtain⟨⟨x1,x2,hsz,hpl,hpc⟩,hp⟩:=hx2
  have hg:=hr (aL n x) (by simp[nodes,aL])
  have hlen:x.2.2.length<=8:=ky (aL n x) hg
  have hname:x.1.2.2.size<=2048:=by have:=rF (aL n x) hg;simp only[aL]at this;omega
  refine(qX n x.1.1 x.1.2.1 x.1.2.2 x.2.1.1 x.2.2.length x.2.1.2 x.2.2 w hname ?_).mono ?_
  ·intro w1 h1
   refine sP n ih x.2.2 x.2.1.1 x.2.1.2 B w1 ?_ (by omega) (fun y hy=>aH n x y hr hy) (Nat.le_trans hB h1.size)
   rcases hp with hp|⟨b,o,e,hb,hp⟩
   ·exact Or.inl hp
   ·exact Or.inr ⟨b,o,e,hb,fun i y hy=>⟨(hp i y hy).1.below (h1.mono hB) hb,(hp i y hy).2.below (h1.mono hB)⟩⟩
  ·rintro e w' ⟨a',c',l,rfl,H⟩
   obtain⟨h1,h2,h3,h4,h5,h6⟩:=H.out
   refine⟨(x.1,(a',c'),l),by rw[<-h2];rfl,h1,⟨⟨x1,x2,hsz,h3,h4⟩, ?_⟩, ?_, ?_⟩
   ·rcases h6 with h6|⟨b,o,e,hb1,hb2,h6⟩
    ·exact Or.inl h6
    ·exact Or.inr ⟨b,o,e,hb2,fun i y hy=>⟨(h6 i y hy).1,(h6 i y hy).2.1⟩⟩
   ·rcases h6 with h6|⟨b,o,e,hb1,hb2,h6⟩
    ·exact Or.inl h6
    ·exact Or.inr ⟨b,o,e,hb1.1,fun i y hy=>(h6 i y hy).2.2⟩
   ·simp only[same]
    simp[h5]
end Go.Proofs.YtmbjgiaebneodaaGreat
