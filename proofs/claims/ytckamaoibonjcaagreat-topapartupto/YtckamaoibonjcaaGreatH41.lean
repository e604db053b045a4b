/- What is proved here: plain facts and contracts that the claimed theorem stands on. No condition but those that each names. -/
import Derived.Test.YtckamaoibonjcaaGreatH40
namespace Go.Proofs.YtckamaoibonjcaaGreat
open Go.RowKit
set_option maxHeartbeats 8000000
def gV(s:ByteArray):ByteArray:=s.extract 1 s.size
def fo(s:ByteArray):Bool:=
 if s.data.toList[0]?=some 35 then eE (gV s) 2
 else if s.data.toList[0]?=some 36 then eE (gV s) 2
 else if s.data.toList[0]?=some 45 then eE (gV s) 13 && !(kL (gV s).data.toList==0)
 else if s.toList==[95]then true
 else if eE s 13 then true
 else decide (0<s.size) && fR s.data.toList
def kD(s:ByteArray):Int×Int×ByteArray:=
 if s.data.toList[0]?=some 35 then (3,kL (gV s).data.toList,⟨#[]⟩)
 else if s.data.toList[0]?=some 36 then (5,kL (gV s).data.toList,⟨#[]⟩)
 else if s.data.toList[0]?=some 45 then (1,-kL (gV s).data.toList,⟨#[]⟩)
 else if s.toList==[95]then (6,0,⟨#[]⟩)
 else if eE s 13 then (1,kL s.data.toList,⟨#[]⟩)
 else (2,0,s)
def Kl(s:ByteArray)(e:Ending):Prop:=
 ∃(k a:Int)(t:ByteArray)(b:Bool),e=.returned (.tuple #[.agg #[ab k,ab a,ae t,.slice none 0 0],.bool b])/\Hid (b=fo s/\(b=true->(k,a,t)=kD s)/\t.size<=s.size/\dk k/\dk a)
theorem Dp(s:ByteArray):(gV s).size<=s.size:=by simp[gV]
def Mv(k:Int)(s:ByteArray)(e:Ending):Prop:=
 ∃(a:Int)(b:Bool),e=.returned (.tuple #[.agg #[ab k,ab a,ae ⟨#[]⟩,.slice none 0 0],.bool b])/\Hid (b=eE s 2/\0<=a/\a<100000000000000/\(b=true->a=kL s.data.toList))
theorem qF(k:Int)(s:ByteArray)(w:World)(c:s.size<=9223372036854775807):ak 127 #[ab k,ae s] w λe w'=>Mv k s e/\ai w w':=by
 go_enter Tryz.func127,Tryz.ntmps127;go_wp2_with (go_at_call 128;refine(nF _ _ _ c (by omega)).mono ?_;rintro e w' ⟨⟨v,b,rfl,a⟩,rfl⟩);exact ar (v:=.tuple #[.agg #[ab k,ab v,ae ⟨#[]⟩,.slice none 0 0],.bool b]) (by simp[results,Tryz.results127,go_sem]) rfl ⟨⟨v,b,rfl,a⟩,by go_grown⟩
theorem EZ(s:ByteArray)(w:World)(b:s.size<=2048):ak 41 #[ae s] w λe w'=>e=.returned (ae s)/\ai w w':=by
 go_enter Tryz.func41,Tryz.ntmps41;go_wp2_with (go_at_call 67;refine(Tryz.stringslite_Clone s w (by omega)).mono ?_;rintro e w' ⟨rfl,a⟩)
 go_ret
 exact⟨rfl,a⟩
theorem Fb(s:ByteArray)(a:0<s.size)(b:tZ s[0]=false)(m:Int):eE s m=false:=by simp[eE,vU s 0 a b]
theorem FI(s:ByteArray)(a:0<s.size)(c:ye s[0]=false):fR s.data.toList=false:=by
 have b:fR s.data.toList=(fR (s.data.toList.take 1) && fR (s.data.toList.drop 1)):=by
  conv=>lhs;rw[<-ji 1 s.data.toList]
  simp only[fR,jV]
 rw[b,uz s 0 a,c];simp
theorem MF(s:ByteArray)(d:0<s.size)(b:¬s[0]=95):(s.toList==[95])=false:=by
 rw[b8];have a:=qw s d;cases hl:s.data.toList with
 | nil=>rfl
 | cons c l=>
  rw[hl]at a;simp at a;rw[<-a]at b;simp[b]
def oQ(k a:Int)(t:ByteArray):Value:=.agg #[ab k,ab a,ae t,.slice none 0 0]
theorem di{a:Int}(b: -100000000000000<=a)(c:a<=100000000000000):dk a:=⟨by omega,by omega⟩
theorem xB{w w':World}{v0 v1 v2 v3:Value}{t:TypeId}(c:Below (w.alloc (.cells #[v0,v1,v2,v3] t)).heap.size (w.alloc (.cells #[v0,v1,v2,v3] t)) w'):(w'.cell? ⟨w.heap.size,0,none⟩=some v0/\w'.cell? ⟨w.heap.size,1,none⟩=some v1/\w'.cell? ⟨w.heap.size,2,none⟩=some v2/\w'.cell? ⟨w.heap.size,3,none⟩=some v3)/\ (w'.frozen? ⟨w.heap.size,0,none⟩=false/\w'.frozen? ⟨w.heap.size,1,none⟩=false/\w'.frozen? ⟨w.heap.size,2,none⟩=false/\w'.frozen? ⟨w.heap.size,3,none⟩=false):=by
 have a:=λo=>c.cell (p:=⟨w.heap.size,o,none⟩) (by simp);have b:=λo=>c.frozen (p:=⟨w.heap.size,o,none⟩) (by simp);exact⟨⟨(a 0).trans (by simp[go_sem]),(a 1).trans (by simp[go_sem]),(a 2).trans (by simp[go_sem]),(a 3).trans (by simp[go_sem])⟩,(b 0).trans (by simp[go_sem]),(b 1).trans (by simp[go_sem]),(b 2).trans (by simp[go_sem]),(b 3).trans (by simp[go_sem])⟩
theorem Co{w w':World}{o:Obj}(e:Below (w.alloc o).heap.size (w.alloc o) w')(a b c d:Value):ai w ((((w'.setCell ⟨w.heap.size,0,none⟩ a).setCell ⟨w.heap.size,1,none⟩ b).setCell ⟨w.heap.size,2,none⟩ c).setCell ⟨w.heap.size,3,none⟩ d):=by
 have f:ai w w':=((am _ _).alloc (aj _) _).trans (e.mono (by simp))
 go_grown
theorem Ge(s:ByteArray)(w:World)(C:s.size<=2048):ak 95 #[ae s] w λe w'=>Kl s e/\ai w w':=by
 have K:=Dp s;by_cases g:0<s.size
 ·have p:=Be g;have A:(s.toList=[])=False:=by simpa using p
  have i:=ao (qw s g);have J:(1:Int)<=s.size:=by omega
  by_cases j:s[0]=95
  ·have c:Hid (fo s=(s.toList==[95])/\((s.toList==[95])=true->kD s=(6,0,⟨#[]⟩))):=by
     simp only[Hid,fo,kD,i.out,j,Fb s g (by simp[tZ,j]) 13,FI s g (by simp[ye,j])];cases h:(s.toList==[95])<;>simp
   go_enter Tryz.func95,Tryz.ntmps95;go_wp2_with fail;exact ar (v:=.tuple #[oQ 6 0 ⟨#[]⟩,.bool (s.toList==[95])]) (by simp[results,Tryz.results95,go_sem,oQ]) rfl ⟨⟨6,0,⟨#[]⟩,_,rfl,c.out.1.symm,λh=>(c.out.2 h).symm,aF _,di (by omega) (by omega),di (by omega) (by omega)⟩,by go_grown⟩
  ·have d1:=jC (k:=95) (d:=95) rfl j;by_cases q:s[0]=35
   ·have c:Hid (fo s=eE (gV s) 2/\kD s=(3,kL (gV s).data.toList,⟨#[]⟩)):=by
      simp[Hid,fo,kD,i.out,q]
    go_enter Tryz.func95,Tryz.ntmps95;go_wp2_with (go_at_call 127;refine(qF 3 (gV s) _ (by omega)).mono ?_;rintro e w' ⟨⟨v,b,rfl,a⟩,f⟩;obtain⟨⟨l,m,n,o⟩,u,x,y,z⟩:=xB f;have HB:=ao (Co f);clear f);exact ar (v:=.tuple #[oQ 3 v ⟨#[]⟩,.bool b]) (by simp[results,Tryz.results95,go_sem,oQ,l,m,n,o]) rfl ⟨⟨3,v,⟨#[]⟩,_,rfl,by rw[c.out.1,a.out.1],λh=>by rw[c.out.2,a.out.2.2.2 h],aF _,di (by omega) (by omega),di (by have:=a.out.2.1;omega) (by have:=a.out.2.2.1;omega)⟩,HB.out _ _ _ _⟩
   ·have G:=jC (k:=35) (d:=35) rfl q;by_cases r:s[0]=36
    ·have c:Hid (fo s=eE (gV s) 2/\kD s=(5,kL (gV s).data.toList,⟨#[]⟩)):=by
       simp[Hid,fo,kD,i.out,r]
     go_enter Tryz.func95,Tryz.ntmps95;go_wp2_with (go_at_call 127;refine(qF 5 (gV s) _ (by omega)).mono ?_;rintro e w' ⟨⟨v,b,rfl,a⟩,f⟩;obtain⟨⟨l,m,n,o⟩,u,x,y,z⟩:=xB f;have HB:=ao (Co f);clear f);exact ar (v:=.tuple #[oQ 5 v ⟨#[]⟩,.bool b]) (by simp[results,Tryz.results95,go_sem,oQ,l,m,n,o]) rfl ⟨⟨5,v,⟨#[]⟩,_,rfl,by rw[c.out.1,a.out.1],λh=>by rw[c.out.2,a.out.2.2.2 h],aF _,di (by omega) (by omega),di (by have:=a.out.2.1;omega) (by have:=a.out.2.2.1;omega)⟩,HB.out _ _ _ _⟩
    ·have H:=jC (k:=36) (d:=36) rfl r;by_cases t:s[0]=45
     ·have c:Hid (fo s=(eE (gV s) 13 && !(kL (gV s).data.toList==0))/\kD s=(1,-kL (gV s).data.toList,⟨#[]⟩)):=by
        simp[Hid,fo,kD,i.out,t]
      go_enter Tryz.func95,Tryz.ntmps95;go_wp2_with (go_at_call 128;refine(nF (gV s) 13 _ (by omega) (by omega)).mono ?_;rintro e w' ⟨⟨v,b,rfl,a⟩,rfl⟩;obtain⟨E,F⟩:=(⟨a.out.2.1,a.out.2.2.1⟩:0<=v/\v<100000000000000);cases b)
      ·exact ar (v:=.tuple #[oQ 1 (-v) ⟨#[]⟩,.bool false]) (by simp[results,Tryz.results95,go_sem,oQ]) rfl ⟨⟨1,-v,⟨#[]⟩,_,rfl,by rw[c.out.1,<-a.out.1];rfl,by simp,aF _,di (by omega) (by omega),di (by omega) (by omega)⟩,by go_grown⟩
      ·exact ar (v:=.tuple #[oQ 1 (-v) ⟨#[]⟩,.bool (v !=0)]) (by simp[results,Tryz.results95,go_sem,oQ]) rfl ⟨⟨1,-v,⟨#[]⟩,_,rfl,by rw[c.out.1,<-a.out.1,<-a.out.2.2.2 (by trivial)];simp[bne],λ_=>by rw[c.out.2,a.out.2.2.2 (by trivial)],aF _,di (by omega) (by omega),di (by omega) (by omega)⟩,by go_grown⟩
     ·have I:=jC (k:=45) (d:=45) rfl t;have c:Hid (fo s=(eE s 13 || fR s.data.toList)/\(kD s=if eE s 13=true then (1,kL s.data.toList,⟨#[]⟩)else (2,0,s))):=by
       simp only[Hid,fo,kD,i.out,MF s g j];simp[q,r,t];cases eE s 13<;>simp[g]
      go_enter Tryz.func95,Tryz.ntmps95
      go_wp2_with (first
       | (go_at_call 128;refine(nF s 13 _ (by omega) (by omega)).mono ?_;rintro e w' ⟨⟨v,b,rfl,a⟩,rfl⟩;obtain⟨E,F⟩:=(⟨a.out.2.1,a.out.2.2.1⟩:0<=v/\v<100000000000000);cases b)
       | (go_at_call 41;refine(EZ s _ C).mono ?_;rintro e L ⟨rfl,f⟩;obtain⟨⟨l,m,n,o⟩,u,x,y,z⟩:=xB f;have HB:=ao (Co f);clear f)
       | (go_at_call 96;refine(sj s _ (by omega)).mono ?_;rintro e M ⟨rfl,rfl⟩))
      ·exact ar (v:=.tuple #[oQ 2 0 s,.bool (fR s.data.toList)]) (by simp[results,Tryz.results95,go_sem,oQ,l,m,n,o]) rfl ⟨⟨2,0,s,_,rfl,by rw[c.out.1,<-a.out.1];rfl,λ_=>by rw[c.out.2,<-a.out.1];rfl,aj _,di (by omega) (by omega),di (by omega) (by omega)⟩,HB.out _ _ _ _⟩
      ·exact ar (v:=.tuple #[oQ 1 v ⟨#[]⟩,.bool true]) (by simp[results,Tryz.results95,go_sem,oQ]) rfl ⟨⟨1,v,⟨#[]⟩,_,rfl,by rw[c.out.1,<-a.out.1];rfl,λ_=>by rw[c.out.2,<-a.out.1,a.out.2.2.2 (by trivial)];rfl,aF _,di (by omega) (by omega),di (by omega) (by omega)⟩,by go_grown⟩
 ·have p:=Bc g;have A:(s.toList=[])=True:=by simpa using p
  have c:Hid (fo s=false):=by
   have D:s.size=0:=by omega
   have B:s.data.toList=[]:=by rw[<-b8];simpa using p
   simp[Hid,fo,b8,eE,B,D]
  go_enter Tryz.func95,Tryz.ntmps95;go_wp2_with fail;exact ar (v:=.tuple #[oQ 0 0 ⟨#[]⟩,.bool false]) (by simp[results,Tryz.results95,go_sem,oQ]) rfl ⟨⟨0,0,⟨#[]⟩,_,rfl,c.out.symm,by simp,aF _,di (by omega) (by omega),di (by omega) (by omega)⟩,by go_grown⟩
def MI(c:UInt8):Bool:=c==32
def xS(c:UInt8):Bool:=c==32 || c==40 || c==41
def fC(p:UInt8->Bool)(s:ByteArray)(i:Nat):Nat:=i+((s.data.toList.drop i).takeWhile p).length
theorem DX(s:ByteArray)(k:Nat)(a:k<s.size):s.data.toList.drop k=s[k]::s.data.toList.drop (k+1):=by
 rw[ee (by simpa using a)];rfl
theorem wU{p:UInt8->Bool}{s:ByteArray}{k:Nat}(a:k<s.size)(b:p s[k]=true):fC p s (k+1)=fC p s k:=by
 unfold fC;rw[DX s k a,List.takeWhile_cons,if_pos b,aZ];omega
theorem wV{p:UInt8->Bool}{s:ByteArray}{k:Nat}(a:k<s.size)(b:p s[k]=false):fC p s k=k:=by
 unfold fC;rw[DX s k a,List.takeWhile_cons,if_neg (by simp[b])];rfl
theorem Bf{p:UInt8->Bool}{s:ByteArray}{k:Nat}(a:¬k<s.size):fC p s k=k:=by
 unfold fC;rw[oE (by simp;omega)];rfl
theorem yI(p:UInt8->Bool)(s:ByteArray)(k:Nat):k<=fC p s k:=jk _ _
theorem Ew(p:UInt8->Bool)(s:ByteArray)(k:Nat)(a:k<=s.size):fC p s k<=s.size:=by
 unfold fC;have b:=(List.takeWhile_sublist (l:=s.data.toList.drop k) p).length_le;have c:(s.data.toList.drop k).length=s.size-k:=by simp
 omega
def dv(s:ByteArray)(i:Nat):Nat:=fC MI s i
def dY(s:ByteArray)(i:Nat):Nat:=if fC (λc=> !xS c) s (dv s i)=dv s i/\dv s i<s.size then dv s i+1 else fC (λc=> !xS c) s (dv s i)
theorem lV(s:ByteArray)(i:Nat):i<=dv s i:=yI _ _ _
theorem BD(s:ByteArray)(i:Nat)(a:i<=s.size):dv s i<=s.size:=Ew _ _ _ a
theorem BE(s:ByteArray)(i:Nat):dv s i<=dY s i:=by
 unfold dY;have:=yI (λc=> !xS c) s (dv s i);split<;>omega
theorem BF(s:ByteArray)(i:Nat)(a:i<=s.size):dY s i<=s.size:=by
 unfold dY;have:=Ew (λc=> !xS c) s (dv s i) (BD s i a);split<;>omega
theorem qW(s:ByteArray)(i:Nat)(a:dv s i<s.size):dv s i<dY s i:=by
 unfold dY;have:=yI (λc=> !xS c) s (dv s i);split<;>omega
theorem G1(s:ByteArray)(i:Nat)(a:i<=s.size)(b:¬dv s i<s.size):dv s i=s.size/\dY s i=s.size:=by
 have c:=BD s i a;have d:=BF s i a;have e:=BE s i;omega
def Rd(r:Nat)(s:ByteArray)(b e:Nat)(w:World):Prop:=w.heap[r]?=some (.cells #[ae s,ab b,ab e] 133)
theorem Rd.cells{r:Nat}{s:ByteArray}{b e:Nat}{w:World}(a:Rd r s b e w):(w.cell? ⟨r,0,none⟩=some (ae s)/\w.cell? ⟨r,1,none⟩=some (ab b)/\w.cell? ⟨r,2,none⟩=some (ab e))/\w.frozen? ⟨r,1,none⟩=false/\w.frozen? ⟨r,2,none⟩=false:=by
 unfold Rd at a;exact⟨⟨by simp[World.cell?,a],by simp[World.cell?,a],by simp[World.cell?,a]⟩,by simp[World.frozen?,a],by simp[World.frozen?,a]⟩
theorem Rd.set1{r:Nat}{s:ByteArray}{b e:Nat}{w:World}(a:Rd r s b e w)(k:Nat):Rd r s k e (w.setCell ⟨r,1,none⟩ (ab k)):=by
 unfold Rd at*;simp[World.setCell,bG,a]
theorem Rd.set2{r:Nat}{s:ByteArray}{b e:Nat}{w:World}(a:Rd r s b e w)(k:Nat):Rd r s b k (w.setCell ⟨r,2,none⟩ (ab k)):=by
 unfold Rd at*;simp[World.setCell,bG,a]
theorem Rd.drew{r:Nat}{s:ByteArray}{b e:Nat}{w:World}(a:Rd r s b e w)(n:Nat):Rd r s b e (w.drewN n):=a
theorem Rd.lt{r:Nat}{s:ByteArray}{b e:Nat}{w:World}(a:Rd r s b e w):r<w.heap.size:=(aC.1 a).1
theorem lL(w:World)(r o:Nat)(v:Value):w.grownBy (w.setCell ⟨r,o,none⟩ v) (some r):=
 ⟨rfl,rfl,rfl,by simp[World.setCell],λk _ b=>eJ w _ v k (λa=>b (by rw[a]))⟩
theorem eu(w:World)(n:Nat)(q:Option Nat):w.grownBy (w.drewN n) q:=⟨rfl,rfl,rfl,aj _,λ_ _ _=>rfl⟩
theorem bP{w w1 w2:World}{q:Option Nat}(a:w.grownBy w1 q)(k:w1.grownBy w2 q):w.grownBy w2 q:=
 ⟨k.os.trans a.os,k.tape.trans a.tape,k.output.trans a.output,ax a.size k.size,λd b c=>(k.block d (aL b a.size) c).trans (a.block d b c)⟩
theorem Io(c:UInt8)(w:World):ak 93 #[.int .u8 c.toNat] w λe w'=>e=.returned (.bool (xS c))/\w'=w:=by
 by_cases a:c=32
 ·subst a;go_enter Tryz.func93,Tryz.ntmps93;go_wp2_with fail
  all_goals go_ret
  all_goals exact⟨rfl,rfl⟩
 ·have d1:=jC (k:=32) (d:=32) rfl a;by_cases b:c=40
  ·subst b;go_enter Tryz.func93,Tryz.ntmps93;go_wp2_with fail
   all_goals go_ret
   all_goals exact⟨rfl,rfl⟩
  ·have g:=jC (k:=40) (d:=40) rfl b;by_cases f:c=41
   ·subst f;go_enter Tryz.func93,Tryz.ntmps93;go_wp2_with fail
    all_goals go_ret
    all_goals exact⟨rfl,rfl⟩
   ·have h:=jC (k:=41) (d:=41) rfl f;go_enter Tryz.func93,Tryz.ntmps93;go_wp2_with fail
    all_goals go_ret
    all_goals exact⟨bK (by rw[show xS c=false by simp[xS,a,b,f]];simp;omega),rfl⟩
theorem J6(r:Nat)(s:ByteArray)(b e:Nat)(w:World)(a:Rd r s b e w)(j:b<=e)(l:e<=s.size):ak 63 #[.pointer (some ⟨r,0,none⟩)] w λc w'=>c=.returned (ae (s.extract b e))/\∃n,w'=w.drewN n:=by
 obtain⟨⟨d,f,g⟩,h,i⟩:=a.cells;clear a;have k:(b:Int)<=e:=by omega
 have m:(e:Int)<=s.size:=by omega
 go_enter Tryz.func63,Tryz.ntmps63;go_wp2_with fail
 go_quiet (fail)
 go_wp2_with fail
 go_ret
 exact⟨by simp,_,rfl⟩
theorem pH{w w1 w2:World}{q:Option Nat}(a:w.grownBy w1 q)(c:w2.os=w1.os)(d:w2.tape=w1.tape)(e:w2.output=w1.output)(b:w2.heap=w1.heap):w.grownBy w2 q:=
 ⟨c.trans a.os,d.trans a.tape,e.trans a.output,by rw[b];exact a.size,λk f g=>by rw[b];exact a.block k f g⟩
theorem DY(c:UInt8)(w:World)(b:Bool)(a:xS c=b):ak 93 #[.int .u8 c.toNat] w λe w'=>e=.returned (.bool b)/\w'=w:=by
 rw[<-a];exact Io c w
theorem qD(r:Nat)(s:ByteArray)(H g:Nat)(w:World)(e:Rd r s H g w)(L:g<=s.size)(X:s.size<=2048):ak 61 #[.pointer (some ⟨r,0,none⟩)] w λI w'=>I=.returned (.tuple #[])/\Hid (Rd r s (dv s g) (dY s g) w'/\w.grownBy w' (some r)):=by
 obtain⟨⟨B,v,x⟩,C,D⟩:=e.cells;have z:=ao (⟨e.set1 g,lL w r 1 (ab g)⟩:_/\_);clear e;go_enter Tryz.func61,Tryz.ntmps61;go_wp2_with fail;go_loopw [] (λwr=>∃k:Nat,k<=s.size/\Hid (Rd r s k g wr/\w.grownBy wr (some r)/\fC MI s k=dv s g)/\True) (λwr=>s.size-(intOf ((wr.cell? ⟨r,1,none⟩).getD undef)).toNat)
 case atStart=>exact⟨g,L,⟨z.out.1,z.out.2,rfl⟩,trivial⟩
 case round=>
  obtain⟨k,M,j,_⟩:=hrel;obtain⟨⟨B,v,x⟩,C,D⟩:=j.out.1.cells;by_cases h:∃e:k<s.size,s[k]=32
  ·obtain⟨b,J⟩:=h;have N:(k:Int)<s.size:=by omega
   have E:decide ((k:Int)<s.size)=true:=by simp;omega
   have u:=ao (wU (p:=MI) b (by simp[MI,J]));go_wp2_with fail
   go_quiet (fail)
   go_wp2_with fail;go_roundw
   case rel=>exact⟨k+1,by omega,⟨(j.out.1.drew nq).set1 (k+1),bP j.out.2.1 (bP (eu wr nq _) (lL _ _ _ _)),by rw[u.out];exact j.out.2.2⟩,trivial⟩
   case measure=>simp[go_sem,v,intOf];omega
  ·have i:Hid (dv s g=k):=by
     rw[<-j.out.2.2];by_cases b:k<s.size
     ·exact wV (p:=MI) b (by simp[MI];exact λe=>h ⟨b,e⟩)
     ·exact Bf (p:=MI) b
   have K:((¬k<s.size)/\decide ((k:Int)<s.size)=false)\/((k:Int)<s.size/\decide ((k:Int)<s.size)=true/\∃e:k<s.size,((s[k].toNat:Int)==32)=false):=by
    by_cases b:k<s.size
    ·have U:=jC (k:=32) (d:=32) rfl (λe=>h ⟨b,e⟩);exact ah ⟨by omega,by simp;omega,b,by simp;omega⟩
    ·exact ag ⟨b,by simp;omega⟩
   clear h;rcases K with⟨b,E⟩|⟨N,E,b,V⟩
   all_goals
    go_wp2_with fail
    go_quiet (fail)
    have A:=ao (show Rd r s k k ((wr.drewN nq).setCell ⟨r,2,none⟩ (ab k))/\w.grownBy ((wr.drewN nq).setCell ⟨r,2,none⟩ (ab k)) (some r)from⟨(j.out.1.drew nq).set2 k,bP j.out.2.1 (bP (eu wr nq _) (lL _ _ _ _))⟩);go_wp2_with fail;go_loopw [] (λq=>∃a:Nat,a<=s.size/\k<=a/\Hid (Rd r s k a q/\w.grownBy q (some r)/\fC (λc=> !xS c) s a=fC (λc=> !xS c) s k)/\True) (λq=>s.size-(intOf ((q.cell? ⟨r,2,none⟩).getD undef)).toNat)
    case atStart=>exact⟨k,M,aj _,⟨A.out.1,A.out.2,rfl⟩,trivial⟩
    case round=>
     obtain⟨a,W,F,f,_⟩:=hrel;obtain⟨⟨B,v,x⟩,C,D⟩:=f.out.1.cells;by_cases h:∃e:a<s.size,xS s[a]=false
     ·obtain⟨n,o⟩:=h;have y:k<s.size:=Nat.lt_of_le_of_lt F n
      first|exact absurd y b|skip
      all_goals
       have T:(a:Int)<s.size:=by omega
       have G:decide ((a:Int)<s.size)=true:=by simp;omega
       have u:=ao (wU (p:=λc=> !xS c) n (by simp[o]));go_wp2_with fail
       go_quiet ((go_at_call 93;exact Calls.quiet_of_same (DY s[a] _ _ o)))
       go_wp2_with fail;go_roundw
       case rel=>exact⟨a+1,by omega,by omega,⟨(f.out.1.drew _).set2 (a+1),bP f.out.2.1 (bP (eu _ _ _) (lL _ _ _ _)),by rw[u.out];exact f.out.2.2⟩,trivial⟩
       case measure=>simp[go_sem,x,intOf];omega
     ·have t:Hid (fC (λc=> !xS c) s k=a):=by
        rw[<-f.out.2.2];by_cases b:a<s.size
        ·exact wV (p:=λc=> !xS c) b (by simp;cases e:xS s[a];exact absurd ⟨b,e⟩ h;rfl)
        ·exact Bf (p:=λc=> !xS c) b
      have S:((¬a<s.size)/\decide ((a:Int)<s.size)=false)\/((a:Int)<s.size/\decide ((a:Int)<s.size)=true/\∃e:a<s.size,xS s[a]=true):=by
       by_cases b:a<s.size
       ·exact ah ⟨by omega,by simp;omega,b,by cases e:xS s[a];exact absurd ⟨b,e⟩ h;rfl⟩
       ·exact ag ⟨b,by simp;omega⟩
      clear h;rcases S with⟨n,G⟩|⟨T,G,n,o⟩
      ·have m:Hid (dY s g=a):=by
         simp only[Hid,dY,i.out,t.out];rw[if_neg (by omega)]
       go_wp2_with fail
       go_quiet (fail)
       go_wp2_with fail;by_cases l:a=k
       ·first|exact absurd (show a<s.size by omega) n|skip
        all_goals
         subst l
         go_quiet (fail)
         go_wp2_with fail
         go_end0
         refine⟨rfl,?_,pH f.out.2.1 rfl rfl rfl rfl⟩;rw[i.out,m.out];exact f.out.1
       ·first|exact absurd (show a=k by omega) l|skip
        all_goals
         have O:((a:Int)==k)=false:=by simp;omega
         have P:(a==k)=false:=by simp;omega
         have Q:decide (a=k)=false:=by simp;omega
         have R:decide ((a:Int)=k)=false:=by simp;omega
         clear l
         go_quiet (fail)
         go_wp2_with fail
         go_end0
         refine⟨rfl,?_,pH f.out.2.1 rfl rfl rfl rfl⟩;rw[i.out,m.out];exact f.out.1
      ·have y:k<s.size:=Nat.lt_of_le_of_lt F n
       first|exact absurd y b|skip
       all_goals
        go_wp2_with fail
        go_quiet ((go_at_call 93;exact Calls.quiet_of_same (DY s[a] _ _ o)))
        go_wp2_with fail;by_cases l:a=k
        ·have m:Hid (dY s g=a+1):=by
           simp only[Hid,dY,i.out,t.out];rw[if_pos ⟨l,by omega⟩];omega
         subst l
         go_quiet (fail)
         go_wp2_with fail
         go_end0
         refine⟨rfl,?_,bP f.out.2.1 (bP (eu _ _ _) (lL _ _ _ _))⟩;rw[i.out,m.out];exact Rd.set2 f.out.1 (a+1)
        ·have m:Hid (dY s g=a):=by
           simp only[Hid,dY,i.out,t.out];rw[if_neg (by omega)]
         have O:((a:Int)==k)=false:=by simp;omega
         have P:(a==k)=false:=by simp;omega
         have Q:decide (a=k)=false:=by simp;omega
         have R:decide ((a:Int)=k)=false:=by simp;omega
         clear l
         go_quiet (fail)
         go_wp2_with fail
         go_end0
         refine⟨rfl,?_,pH f.out.2.1 rfl rfl rfl rfl⟩;rw[i.out,m.out];exact f.out.1
abbrev fq:Type:=Nat×ByteArray
def BQ(x:ByteArray):Bool:=x.toList==[40]
def xX(x:ByteArray):Bool:=x.toList==[41]
theorem KX{x:ByteArray}{c:UInt8}(a:(x.toList==[c])=true):x.data.toList=[c]/\x.size=1:=by
 rw[b8]at a;have b:x.data.toList=[c]:=by simpa using a
 refine⟨b,?_⟩;have:x.data.toList.length=x.size:=by simp
 rw[b]at this;simpa using this.symm
theorem uw{x:ByteArray}(a:xX x=true):fo x=false/\BQ x=false:=by
 obtain⟨b,c⟩:=KX a;simp[fo,BQ,eE,b8,b,ik,tZ,fR,ye]
def DG{a:Type}(f:a->List fq->List fq->Prop):List a->List fq->List fq->Prop
 | [],ts,r=>ts=r
 | x::l,ts,r=>∃m,f x ts m/\DG f l m r
def Is:(n:Nat)->Tm n->List fq->List fq->Prop
 | 0,_,_,_=>False
 | n+1,x,ts,r=>∃t a,ts=t::a/\((BQ t.2=false/\fo t.2=true/\x.1=kD t.2/\x.2.2=[]/\r=a)\/
    (BQ t.2=true/\x.1=(4,0,⟨#[]⟩)/\∃c,DG (Is n) x.2.2 a (c::r)/\xX c.2=true))
theorem DG.snoc{b:Type}{f:b->List fq->List fq->Prop}{x:b}{r:List fq}:{l:List b}->{a m:List fq}->DG f l a m->f x m r->DG f (l++ [x]) a r
 | [],a,m,h,hx=>by
  have e:a=m:=h;subst e;exact⟨r,hx,rfl⟩
 | y::l,a,m,h,hx=>by
  obtain⟨q,c,d⟩:=h;exact⟨q,c,d.snoc hx⟩
theorem Is.head{n:Nat}{x:Tm n}{c r:List fq}(a:Is n x c r):∃t b,c=t::b/\xX t.2=false:=by
 cases n with
 | zero=>exact a.elim
 | succ n=>
  obtain⟨t,b,rfl,a⟩:=a;refine⟨t,b,rfl,?_⟩;cases hc:xX t.2
  ·rfl
  ·have:=uw hc;rcases a with a|a
   ·rw[this.1]at a;exact absurd a.2.1 (by simp)
   ·rw[this.2]at a;exact absurd a.1 (by simp)
theorem DG.one{n m:Nat}(ih:∀(x:Tm n)(y:Tm m)(d r f:List fq),Is n x d r->Is m y d f->aw n x m y=true/\r=f):(p:List (Tm n))->(q:List (Tm m))->(d:List fq)->(c i:fq)->(r f:List fq)->xX c.2=true->xX i.2=true->DG (Is n) p d (c::r)->DG (Is m) q d (i::f)->ay (λa b=>aw n a m b) p q=true/\r=f
 | [],[],d,c,i,r,f,hc,hc',h,h'=>by
  have j:d=c::r:=h;have g:d=i::f:=h';rw[j]at g;injection g with _ e;exact⟨rfl,e⟩
 | [],y::q,d,c,i,r,f,hc,hc',h,h'=>by
  have j:d=c::r:=h;obtain⟨A,k,_⟩:=h';obtain⟨t,C,g,l⟩:=k.head;rw[j]at g;injection g with e _;rw[<-e,hc]at l;exact absurd l (by simp)
 | x::p,[],d,c,i,r,f,hc,hc',h,h'=>by
  have j:d=i::f:=h';obtain⟨A,k,_⟩:=h;obtain⟨t,C,g,l⟩:=k.head;rw[j]at g;injection g with e _;rw[<-e,hc']at l;exact absurd l (by simp)
 | x::p,y::q,d,c,i,r,f,hc,hc',h,h'=>by
  obtain⟨o,k,v⟩:=h;obtain⟨B,w,z⟩:=h';obtain⟨j,g⟩:=ih x y d o B k w;subst g;obtain⟨s,u⟩:=DG.one ih p q o c i r f hc hc' v z;exact⟨by simp only[ay];rw[j,s];rfl,u⟩
theorem Is.one:(n:Nat)->(m:Nat)->(x:Tm n)->(y:Tm m)->(f r b:List fq)->Is n x f r->Is m y f b->aw n x m y=true/\r=b
 | 0,_,_,_,_,_,_,a,_=>a.elim
 | _+1,0,_,_,_,_,_,_,a=>a.elim
 | n+1,m+1,x,y,f,r,b,a,g=>by
  obtain⟨t,z,rfl,a⟩:=a;obtain⟨t2,A,e,g⟩:=g;injection e with h i;subst h i;rcases a with⟨o,_,l,j,v⟩|⟨o,l,c,j,s⟩
  ·rcases g with⟨_,_,p,k,w⟩|⟨d,_⟩
   ·refine⟨?_,v.trans w.symm⟩;simp only[aw,l,p,j,k,ay];simp
   ·rw[o]at d;exact absurd d (by simp)
  ·rcases g with⟨d,_⟩|⟨_,p,q,k,u⟩
   ·rw[o]at d;exact absurd d (by simp)
   ·obtain⟨h,i⟩:=DG.one (λx y f r b=>Is.one n m x y f r b) x.2.2 y.2.2 z c q r b s u j k;refine⟨?_,i⟩;simp only[aw,l,p,h];simp
theorem tj:(n:Nat)->(x:Tm n)->(a r:List fq)->Is n x a r->(av n x).length+r.length<=a.length
 | 0,_,_,_,b=>b.elim
 | n+1,x,a,r,b=>by
  have key:∀(l:List (Tm n))(a r:List fq),DG (Is n) l a r->(l.flatMap λy=>av n y).length+r.length<=a.length:=by
   intro l
   induction l with
   | nil=>intro a r b;have f:a=r:=b;subst f;simp
   | cons y l ih=>
    intro a r b;obtain⟨e,g,h⟩:=b;have:=tj n y a e g;have:=ih e r h;simp only[bv,bf];omega
  obtain⟨t,k,rfl,b⟩:=b;simp only[av,aZ];rcases b with⟨o,_,j,d,i⟩|⟨o,j,c,d,m⟩
  ·rw[d,i];simp;omega
  ·have:=key x.2.2 k (c::r) d;simp only[aZ]at this;omega
def jx(L:Nat):List fq->Nat->Option Nat
 | [],0=>none
 | [],_+1=>some L
 | t::_,0=>some t.1
 | t::ts,d+1=>if BQ t.2 then jx L ts (d+2)else if xX t.2 then jx L ts d else if fo t.2 then jx L ts (d+1)else some t.1
def BP(L:Nat):List fq->Nat->Option Nat
 | [],_=>some L
 | t::ts,d=>if BQ t.2 then jx L ts (d+1)else if fo t.2 then jx L ts d else some t.1
def Ji(L:Nat):List fq->Nat
 | []=>L
 | t::_=>t.1
theorem Ba(L:Nat)(a:List fq)(d:Nat)(b:∀t c,a=t::c->xX t.2=false):jx L a (d+1)=BP L a (d+1):=by
 cases a with
 | nil=>rfl
 | cons t a=>simp only[jx,BP];rw[b t a rfl];simp
theorem Db(L:Nat)(t:fq)(b:List fq)(d:Nat)(a:xX t.2=true):jx L (t::b) (d+1)=jx L b d:=by
 simp only[jx];rw[(uw a).2,a];simp
theorem wQ{c d:Type}(f:c->d->Bool):(p:List c)->(q:List d)->ay f p q=true->p.length=q.length
 | [],[],_=>rfl
 | [],_::_,h=>by simp[ay]at h
 | _::_,[],h=>by simp[ay]at h
 | a::p,b::q,h=>by
  simp only[ay,aB]at h;simp[wQ f p q h.2]
theorem KU{k b f g:Int}{s e:ByteArray}{l d c i:Nat}{a h:Option Addr}(j:k=b)(m:f=g)(n:s=e)(o:l=d):cq ((k,f,s),(a,l,c))=cq ((b,g,e),(h,d,i)):=by
 subst j m n o;rfl
theorem sC:(n m:Nat)->(x:Tm n)->(y:Tm m)->aw n x m y=true->bT n x=bT m y/\fm n x=fm m y/\sz n x=sz m y
 | 0,_,_,_,c=>by simp[aw]at c
 | _+1,0,_,_,c=>by simp[aw]at c
 | n+1,m+1,x,y,c=>by
  have key:∀(p:List (Tm n))(q:List (Tm m)),ay (λa b=>aw n a m b) p q=true->
    (p.all λy=>bT n y)=(q.all λy=>bT m y)/\(∀a,p.foldl (λm y=>max m (fm n y)) a=q.foldl (λk y=>max k (fm m y)) a)/\(p.map λy=>1+sz n y).sum=(q.map λy=>1+sz m y).sum:=by
   intro p
   induction p with
   | nil=>
    intro q c;cases q with
    | nil=>simp
    | cons b q=>simp[ay]at c
   | cons a p ih=>
    intro q c;cases q with
    | nil=>simp[ay]at c
    | cons b q=>
     simp only[ay,aB]at c;obtain⟨j,l,o⟩:=sC n m a b c.1;obtain⟨e,f,g⟩:=ih q c.2;refine⟨by simp only[iK,j,e],λv=>?_,by simp only[aI,bC,o,g]⟩;simp only[ge,l];exact f _
  simp only[aw,aB,bV]at c;obtain⟨⟨⟨d,r⟩,h⟩,i⟩:=c;obtain⟨e,f,g⟩:=key _ _ i;have t:=wQ _ _ _ i;have u:x.1.2.2=y.1.2.2:=by
   rw[b8,b8]at h;exact ByteArray.ext (lX.1 h)
  refine⟨?_,?_,?_⟩
  ·have s:cq (bu n x)=cq (bu m y):=KU d r u t;simp only[bT,s,d,e]
  ·simp only[fm,d,f]
  ·simp only[sz,d,g]
theorem Gn(n m:Nat)(x:Tm n)(y:Tm m)(a:aw n x m y=true):bq n x=bq m y:=by
 obtain⟨b,c,d⟩:=sC n m x y a;rw[<-fZ,<-fZ];simp only[vH,b,c,d]
def qT:Nat->ByteArray->Nat->List fq
 | 0,_,_=> []
 | f+1,s,i=>if dv s i<s.size then (dv s i,s.extract (dv s i) (dY s i))::qT f s (dY s i)else []
def jr(s:ByteArray)(i:Nat):List fq:=qT (s.size-i) s i
theorem mR(s:ByteArray):(f g i:Nat)->s.size-i<=f->s.size-i<=g->qT f s i=qT g s i
 | 0,0,_,_,_=>rfl
 | 0,g+1,i,h,_=>by
  have:=lV s i;simp only[qT];rw[if_neg (by omega)]
 | f+1,0,i,_,h=>by
  have:=lV s i;simp only[qT];rw[if_neg (by omega)]
 | f+1,g+1,i,h,h'=>by
  simp only[qT];by_cases a:dv s i<s.size
  ·rw[if_pos a,if_pos a];have b:=qW s i a;have c:=lV s i;rw[mR s f g (dY s i) (by omega) (by omega)]
  ·rw[if_neg a,if_neg a]
theorem xe(s:ByteArray)(i:Nat)(a:dv s i<s.size):jr s i=(dv s i,s.extract (dv s i) (dY s i))::jr s (dY s i):=by
 have b:=qW s i a;have c:=lV s i;unfold jr;rw[mR s (s.size-i) (s.size-i+1) i (by omega) (by omega)];simp only[qT];rw[if_pos a,mR s (s.size-i) (s.size-dY s i) (dY s i) (by omega) (by omega)]
theorem ve(s:ByteArray)(i:Nat)(a:¬dv s i<s.size):jr s i=[]:=by
 unfold jr;rw[mR s (s.size-i) (s.size-i+1) i (by omega) (by omega)];simp only[qT];rw[if_neg a]
theorem kZ(s:ByteArray):(f i:Nat)->s.size-i<=f->(jr s i).length<=s.size-i
 | 0,i,h=>by
  have:=lV s i;rw[ve s i (by omega)];simp
 | f+1,i,h=>by
  by_cases a:dv s i<s.size
  ·have b:=qW s i a;have c:=lV s i;rw[xe s i a];have:=kZ s f (dY s i) (by omega);simp only[aZ];omega
  ·rw[ve s i a];simp
def At(s:ByteArray)(b e:Nat)(a:List fq):Prop:=
 b<=e/\e<=s.size/\((b=s.size/\a=[])\/(b<e/\a=(b,s.extract b e)::jr s e))
theorem At.next{s:ByteArray}{i:Nat}(b:i<=s.size):At s (dv s i) (dY s i) (jr s i):=by
 refine⟨BE s i,BF s i b,?_⟩;by_cases a:dv s i<s.size
 ·exact ah ⟨qW s i a,xe s i a⟩
 ·exact ag ⟨(G1 s i b a).1,ve s i a⟩
theorem At.pos{s:ByteArray}{b e:Nat}{a:List fq}(c:At s b e a):Ji s.size a=b:=by
 rcases c.2.2 with⟨d,rfl⟩|⟨_,rfl⟩
 ·exact d.symm
 ·rfl
theorem At.nil{s:ByteArray}{b e:Nat}(a:At s b e []):(s.extract b e).toList=[]:=by
 rcases a.2.2 with⟨d,_⟩|⟨_,c⟩
 ·rw[b8];apply bB;have:=a.2.1;simp;omega
 ·exact absurd c (by simp)
theorem At.cons{s:ByteArray}{b e:Nat}{t:fq}{d:List fq}(c:At s b e (t::d)):t=(b,s.extract b e)/\d=jr s e/\0<(s.extract b e).size:=by
 rcases c.2.2 with⟨_,a⟩|⟨h,a⟩
 ·exact absurd a (by simp)
 ·injection a with f g;refine⟨f,g,?_⟩;have:=c.2.1;simp;omega
-- Sign by sign:what a sign does to the words ahead.
theorem fz{w w1:World}{q:Option Nat}(a:w.grownBy w1 q)(o:Obj):w.grownBy (w1.alloc o) q:=
 ⟨a.os,a.tape,a.output,by have:=a.size;simp;omega,λk b c=>by
  exact(((am w1.heap.size w1).alloc (aj _) o).block k (aL b a.size)).trans (a.block k b c)⟩
theorem lK{w w1:World}{q:Option Nat}(a:w.grownBy w1 q){b:Nat}(e:w.heap.size<=b)(o:Nat)(v:Value):w.grownBy (w1.setCell ⟨b,o,none⟩ v) q:=
 ⟨a.os,a.tape,a.output,by simpa [World.setCell]using a.size,λk c d=>(eJ w1 ⟨b,o,none⟩ v k (by simp;omega)).trans (a.block k c d)⟩
theorem FM{w w1 w2:World}{q:Option Nat}(a:w.grownBy w1 q){g:Option Nat}(k:w1.grownBy w2 g)(f:∀b,g=some b->w.heap.size<=b):w.grownBy w2 q:=
 ⟨k.os.trans a.os,k.tape.trans a.tape,k.output.trans a.output,ax a.size k.size,λc d h=>(k.block c (aL d a.size) (λe=>by have:=f c e.symm;omega)).trans (a.block c d h)⟩
theorem nD{w w1 w2:World}{q:Option Nat}(a:w.grownBy w1 q)(k:ai w1 w2):w.grownBy w2 q:=
 ⟨k.os.trans a.os,k.tape.trans a.tape,k.output.trans a.output,ax a.size k.size,λc b d=>(k.block c (aL b a.size)).trans (a.block c b d)⟩
theorem Rd.block{r:Nat}{s:ByteArray}{b e:Nat}{w w':World}(a:Rd r s b e w)(k:w'.heap[r]?=w.heap[r]?):Rd r s b e w':=k.trans a
theorem Rd.alloc{r:Nat}{s:ByteArray}{b e:Nat}{w:World}(a:Rd r s b e w)(o:Obj):Rd r s b e (w.alloc o):=
 a.block (((am w.heap.size w).alloc (aj _) o).block r a.lt)
theorem Rd.far{r:Nat}{s:ByteArray}{b e:Nat}{w:World}(a:Rd r s b e w){g:Nat}(c:r<g)(o:Nat)(v:Value):Rd r s b e (w.setCell ⟨g,o,none⟩ v):=
 a.block (eJ w ⟨g,o,none⟩ v r (by simp;omega))
def ahead(s:ByteArray)(b e:Nat):List fq:=if b<s.size then (b,s.extract b e)::jr s e else []
def NQ(r:Nat)(s:ByteArray)(w:World):Nat:=(ahead s (intOf ((w.cell? ⟨r,1,none⟩).getD undef)).toNat (intOf ((w.cell? ⟨r,2,none⟩).getD undef)).toNat).length
theorem IZ{r:Nat}{s:ByteArray}{b e:Nat}{w:World}{a:List fq}(f:Rd r s b e w)(k:At s b e a):NQ r s w=a.length:=by
 obtain⟨⟨h,c,d⟩,i,j⟩:=f.cells;simp only[NQ,c,d,Option.getD_some,intOf,Int.toNat_natCast,ahead];rcases k.2.2 with⟨g,rfl⟩|⟨g,rfl⟩
 ·rw[if_neg (by omega)]
 ·rw[if_pos (by have:=k.2.1;omega)]
def lg(n:Nat)(s:ByteArray)(r:Nat)(e:List fq)(w w':World)(v:Value)(ok:Bool):Prop:=
 w.grownBy w' (some r)/\∃b f c,Rd r s b f w'/\At s b f c/\
  (ok=true->(∃d:Tm n,df n d=v/\Is n d e c/\In w'.heap.size w' n d/\bZ (λg=>w.heap.size<=g) n d)/\∀a,BP s.size e a=jx s.size c a)/\
  (ok=false->∀a,BP s.size e a=some (Ji s.size c))
def Kn(n:Nat)(s:ByteArray)(r:Nat)(d:List fq)(w w':World)(e:Ending):Prop:=
 ∃(k b:Int)(t:ByteArray)(a:Option Addr)(l c:Nat)(ok:Bool),e=.returned (.tuple #[.agg #[ab k,ab b,ae t,.slice a l c],.bool ok])/\
  Hid (lg n s r d w w' (.agg #[ab k,ab b,ae t,.slice a l c]) ok)
def L0(n:Nat):Prop:=∀(r:Nat)(s:ByteArray)(b e:Nat)(a:List fq)(w:World),Rd r s b e w->At s b e a->s.size<=2048->a.length<=n->
 ak 62 #[.pointer (some ⟨r,0,none⟩)] w λc w'=>Kn (n+1) s r a w w' c
theorem oz(r:Nat)(s:ByteArray)(b e:Nat)(x:ByteArray)(w:World)(c:Rd r s b e w)(d:b<=e)(f:e<=s.size)(g:s.extract b e=x):ak 63 #[.pointer (some ⟨r,0,none⟩)] w λa w'=>a=.returned (ae x)/\∃n,w'=w.drewN n:=by
 subst g;exact J6 r s b e w c d f
def Bx(q:Nat)(v0 v1 v2 v3:Value)(w:World):Prop:=w.heap[q]?=some (.cells #[v0,v1,v2,v3] 30)
theorem Bx.cells{q:Nat}{v0 v1 v2 v3:Value}{w:World}(a:Bx q v0 v1 v2 v3 w):(w.cell? ⟨q,0,none⟩=some v0/\w.cell? ⟨q,1,none⟩=some v1/\w.cell? ⟨q,2,none⟩=some v2/\w.cell? ⟨q,3,none⟩=some v3)/\ (w.frozen? ⟨q,0,none⟩=false/\w.frozen? ⟨q,1,none⟩=false/\w.frozen? ⟨q,2,none⟩=false/\w.frozen? ⟨q,3,none⟩=false):=by
 unfold Bx at a;exact⟨⟨by simp[World.cell?,a],by simp[World.cell?,a],by simp[World.cell?,a],by simp[World.cell?,a]⟩,by simp[World.frozen?,a],by simp[World.frozen?,a],by simp[World.frozen?,a],by simp[World.frozen?,a]⟩
theorem Bx.block{q:Nat}{v0 v1 v2 v3:Value}{w w':World}(a:Bx q v0 v1 v2 v3 w)(k:w'.heap[q]?=w.heap[q]?):Bx q v0 v1 v2 v3 w':=k.trans a
theorem Bx.lt{q:Nat}{v0 v1 v2 v3:Value}{w:World}(a:Bx q v0 v1 v2 v3 w):q<w.heap.size:=(aC.1 a).1
theorem Bx.set3{q:Nat}{v0 v1 v2 v3:Value}{w:World}(a:Bx q v0 v1 v2 v3 w)(v:Value):Bx q v0 v1 v2 v (w.setCell ⟨q,3,none⟩ v):=by
 unfold Bx at*;simp[World.setCell,bG,a]
theorem Bx.new(w:World)(v0 v1 v2 v3:Value):Bx w.heap.size v0 v1 v2 v3 (w.alloc (.cells #[v0,v1,v2,v3] 30)):=az w _
def Hb(n:Nat)(r:Nat)(s:ByteArray)(c:List fq)(w:World)(b e:Nat)(v:Value)(wr:World)(l:List (Tm (n+1)))(a:List fq):Prop:=
 Rd r s b e wr/\At s b e a/\(w.alloc (.cells #[ab 0,ab 0,ae ⟨#[]⟩,.slice none 0 0] 30)).grownBy wr (some r)/\qh (w.heap.size+2) (n+1) l v wr/\
  Bx w.heap.size (ab 0) (ab 0) (ae ⟨#[]⟩) (.slice none 0 0) wr/\Bx (w.heap.size+1) (ab 4) (ab 0) (ae ⟨#[]⟩) v wr/\
  DG (Is (n+1)) l c a/\a.length<=c.length/\∀d,jx s.size c (d+1)=jx s.size a (d+1)
def Kp(n:Nat)(r:Nat)(s:ByteArray)(c:List fq)(w:World)(b e:Nat)(v:Value)(wr:World):Prop:=
 ∃(l:List (Tm (n+1)))(a:List fq),Hb n r s c w b e v wr l a
theorem fw(w:World)(o:Obj){q:Nat}(a:q<w.heap.size):(w.alloc o).heap[q]?=w.heap[q]? :=(cW w o none).block q a (by simp)
theorem GQ{n r:Nat}{s:ByteArray}{b e:Nat}{i:fq}{a:List fq}{w w1:World}(h:Rd r s b e w)(c:At s b e (i::a))(k:Rd r s (dv s e) (dY s e) w1)(g:((w.alloc (.cells #[ab 0,ab 0,ae ⟨#[]⟩,.slice none 0 0] 30)).alloc (.cells #[ab 4,ab 0,ae ⟨#[]⟩,.slice none 0 0] 30)).grownBy w1 (some r)):Kp n r s a w (dv s e) (dY s e) (.slice none 0 0) w1:=by
 have j:=h.lt;have d:=(At.cons c).2.1;refine⟨[],a,k,by rw[d];exact At.next c.2.1,bP (cW _ _ _) g,⟨⟨rfl,ag ⟨rfl,rfl⟩⟩,by simp⟩,?_,?_,rfl,aj _,λ_=>rfl⟩
 ·exact((Bx.new w _ _ _ _).block (fw _ _ (by simp))).block (g.block _ (by simp;omega) (by simp;omega))
 ·have:=Bx.new (w.alloc (.cells #[ab 0,ab 0,ae ⟨#[]⟩,.slice none 0 0] 30)) (ab 4) (ab 0) (ae ⟨#[]⟩) (.slice none 0 0);have f:(w.alloc (.cells #[ab 0,ab 0,ae ⟨#[]⟩,.slice none 0 0] 30)).heap.size=w.heap.size+1:=by simp
  rw[f]at this;exact this.block (g.block _ (by simp) (by simp;omega))
theorem qh.kept{base n:Nat}{l:List (Tm n)}{v:Value}{w w':World}(a:qh base n l v w){r:Nat}(g:w.grownBy w' (some r))(k:r<base):qh base n l v w':=by
 refine⟨a.1.kept g (ah λf=>by have:=a.1.lt r f;omega),λe d=>⟨?_,(a.2 e d).2⟩⟩;obtain⟨c,h⟩:=a.2 e d;have i:=In.offB h c;exact(In.off (λb j=>g.block b j.2 (by simp;omega)) i c).mono g.size
theorem qh.snoc{base n:Nat}{l:List (Tm (n+1))}{v:Value}{w0 w w2:World}(h:qh base (n+1) l v w0){r:Nat}(i:w0.grownBy w (some r))(A:r<base){x:Tm (n+1)}(C:In w.heap.size w (n+1) x)(y:bZ (λq=>w0.heap.size<=q) (n+1) x)(D:base<=w0.heap.size){w1:World}(j:w.grownBy w1 none){g c:Nat}(z:w2.ownsRow base 30 4 (.slice (some ⟨g,0,none⟩) (l.length+1) c) (l.length+1) (cm (l.map (fX (n+1)))++uF (fX (n+1) x)))(k:w1.grownBy w2 v.ownBlock)(u:v.ownBlock=some g\/g=w1.heap.size):qh base (n+1) (l++ [x]) (.slice (some ⟨g,0,none⟩) (l.length+1) c) w2:=by
 have p:=h.kept i A;have E:=i.size;have F:=j.size;have G:=k.size;have B:∀b,v.ownBlock=some b->b<w0.heap.size:=λb d=>(h.1.lt b d).2;refine⟨by simpa [cm]using z,λa f=>?_⟩
 have key:∀a:Tm (n+1),In w.heap.size w (n+1) a->bZ (λb=>base<=b/\v.ownBlock≠some b) (n+1) a->
   In w2.heap.size w2 (n+1) a/\bZ (λb=>base<=b/\(Value.slice (some ⟨g,0,none⟩) (l.length+1) c).ownBlock≠some b) (n+1) a:=by
  intro a m t;have o:=In.offB t m;refine⟨(In.off (λb e=>(k.block b (by omega) (λd=>e.1.2 d.symm)).trans (j.block b e.2 (by simp))) o m).mono (by omega),o.mono λb e=>⟨e.1.1,?_⟩⟩;intro d;have s:g=b:=by simpa [Value.ownBlock]using d
  rcases u with h|h
  ·exact e.1.2 (by rw[h,s])
  ·omega
 rcases da.1 f with f|f
 ·exact key a (p.2 a f).1 (p.2 a f).2
 ·have d:a=x:=by simpa using f
  subst d;exact key a C (y.mono λb e=>⟨by omega,λd=>by have:=B b d;omega⟩)
theorem GN{n r:Nat}{s:ByteArray}{p:fq}{q:List fq}{w wr w2:World}{b e:Nat}{a:Option Addr}{L c m:Nat}(O:r<w.heap.size)(y:BQ p.2=true)(B:Kp n r s q w b e (.slice a L c) wr)(j:xX (s.extract b e)=true)(k:Rd r s (dv s e) (dY s e) w2)(g:(wr.drewN m).grownBy w2 (some r)):lg (n+2) s r (p::q) (w.alloc (.cells #[ab 0,ab 0,ae ⟨#[]⟩,.slice none 0 0] 30)) w2 (.agg #[ab 4,ab 0,ae ⟨#[]⟩,.slice a L c]) true/\ Bx w.heap.size (ab 0) (ab 0) (ae ⟨#[]⟩) (.slice none 0 0) w2/\Bx (w.heap.size+1) (ab 4) (ab 0) (ae ⟨#[]⟩) (.slice a L c) w2:=by
 obtain⟨l,o,K,h,u,C,v,x,D,M,E⟩:=B;have Q:=u.size;have H:=x.lt;have i:wr.grownBy w2 (some r):=bP (eu wr m _) g;obtain⟨I,J,ev,G,F⟩:=(C.kept i (by omega)).tup;injection ev with d f A;subst d f A;refine⟨⟨bP u i,dv s e,dY s e,jr s e,k,At.next h.2.1,λ_=>⟨⟨_,rfl,?_,F,G.mono λP N=>by simp;omega⟩,?_⟩,by simp⟩,v.block (i.block _ v.lt (by simp;omega)),x.block (i.block _ H (by simp;omega))⟩
 ·cases o with
  | nil=>simp[xX,h.nil]at j
  | cons t o=>
   obtain⟨d,f,_⟩:=h.cons;subst d f;exact⟨p,q,rfl,ah ⟨y,rfl,_,D,j⟩⟩
 ·intro z;cases o with
  | nil=>simp[xX,h.nil]at j
  | cons t o=>
   obtain⟨d,f,_⟩:=h.cons;subst d f;simp only[BP,y,cM];rw[E z,Db _ _ _ _ j]
theorem lg.box{n r:Nat}{s:ByteArray}{d:List fq}{w w1:World}{o:Obj}{v:Value}{ok:Bool}(a:r<w.heap.size)(g:lg n s r d (w.alloc o) w1 v ok)(v0 v1 v2 v3:Value):lg n s r d w ((((w1.setCell ⟨w.heap.size,0,none⟩ v0).setCell ⟨w.heap.size,1,none⟩ v1).setCell ⟨w.heap.size,2,none⟩ v2).setCell ⟨w.heap.size,3,none⟩ v3) v ok:=by
 obtain⟨h,b,f,q,i,j,k,l⟩:=g;refine⟨lK (lK (lK (lK (bP (cW _ _ _) h) (aj _) _ _) (aj _) _ _) (aj _) _ _) (aj _) _ _,b,f,q,(((i.far a _ _).far a _ _).far a _ _).far a _ _,j,λm=>?_,l⟩;obtain⟨⟨t,u,x,y,e⟩,z⟩:=k m;have c:∀b,(w.alloc o).heap.size<=b->((((w1.setCell ⟨w.heap.size,0,none⟩ v0).setCell ⟨w.heap.size,1,none⟩ v1).setCell ⟨w.heap.size,2,none⟩ v2).setCell ⟨w.heap.size,3,none⟩ v3).heap[b]?=w1.heap[b]? :=λb c=>by
  have A:w.heap.size<b:=by simp at c;omega
  rw[eJ _ _ _ _ (by simp;omega),eJ _ _ _ _ (by simp;omega),eJ _ _ _ _ (by simp;omega),eJ _ _ _ _ (by simp;omega)]
 refine⟨⟨t,u,x,(In.off c e y).mono (by simp[World.setCell]),e.mono λB p=>by simp at p;omega⟩,z⟩
theorem lg.alloc{n r:Nat}{s:ByteArray}{a:List fq}{w w1:World}{v:Value}{ok:Bool}(f:lg n s r a w w1 v ok)(o:Obj):lg n s r a w (w1.alloc o) v ok:=by
 obtain⟨g,b,e,p,h,i,j,k⟩:=f;refine⟨fz g o,b,e,p,h.alloc o,i,λm=>?_,k⟩;obtain⟨⟨q,t,u,c,d⟩,x⟩:=j m;exact⟨⟨q,t,u,(In.off (λb l=>fw w1 o l.2) (In.offB d c) c).mono (by simp),d⟩,x⟩
theorem At.no{s:ByteArray}{b e:Nat}{a:List fq}(d:At s b e a)(f:xX (s.extract b e)=false):∀t c,a=t::c->xX t.2=false:=by
 intro t c e;subst e;rw[d.cons.1];exact f
theorem xh{n r:Nat}{s:ByteArray}{h f:List fq}{w wr w1:World}{b e m:Nat}{v:Value}{l:List (Tm (n+1))}(u:r<w.heap.size)(a:Hb n r s h w b e v wr l f)(g:(wr.drewN m).grownBy w1 (some r)):Bx w.heap.size (ab 0) (ab 0) (ae ⟨#[]⟩) (.slice none 0 0) w1/\Bx (w.heap.size+1) (ab 4) (ab 0) (ae ⟨#[]⟩) v w1/\w.heap.size+1<w1.heap.size:=by
 obtain⟨i,j,k,o,c,d,p,q,t⟩:=a;have a:=d.block (g.block _ d.lt (by simp;omega));exact⟨c.block (g.block _ c.lt (by simp;omega)),a,a.lt⟩
theorem GO{n r:Nat}{s:ByteArray}{c:fq}{f d:List fq}{w wr w1:World}{b e m:Nat}{v B:Value}{l:List (Tm (n+1))}(t:BQ c.2=true)(j:Hb n r s f w b e v wr l d)(q:xX (s.extract b e)=false)(R:lg (n+1) s r d (wr.drewN m) w1 B false)(A:Value):lg (n+2) s r (c::f) (w.alloc (.cells #[ab 0,ab 0,ae ⟨#[]⟩,.slice none 0 0] 30)) w1 A false:=by
 obtain⟨C,k,o,D,E,F,G,H,p⟩:=j;obtain⟨i,g,h,z,u,x,_,y⟩:=R;refine⟨bP o (bP (eu wr m _) i),g,h,z,u,x,by simp,λ_ a=>?_⟩;simp only[BP,t,cM];rw[p a,Ba _ _ _ (k.no q)];exact y rfl (a+1)
theorem Eg{n:Nat}:(l:List (Tm n))->(a r:List fq)->DG (Is n) l a r->l.length+r.length<=a.length
 | [],a,r,h=>by have e:a=r:=h;subst e;simp
 | x::l,a,r,h=>by
  obtain⟨m,b,c⟩:=h;have d:=Eg l m r c;have f:=tj n x a m b;have g:0<(av n x).length:=by
   cases n with
   | zero=>exact b.elim
   | succ n=>simp[av]
  simp only[aZ];omega
theorem LJ{n r:Nat}{s:ByteArray}{h o:List fq}{w wr w1:World}{b e m:Nat}{a:Option Addr}{L c:Nat}{l:List (Tm (n+1))}(F:r<w.heap.size)(q:Hb n r s h w b e (.slice a L c) wr l o)(g:(wr.drewN m).grownBy w1 (some r))(E:h.length<=2048):l.length=L/\L<=2048/\∀d f,((w1.alloc d).alloc f).ownsRow (w.heap.size+2) 30 4 (.slice a L c) L (cm (l.map (fX (n+1)))):=by
 obtain⟨x,y,z,k,A,B,t,C,D⟩:=q;have p:wr.grownBy w1 (some r):=bP (eu wr m _) g;obtain⟨u,v,ev,_⟩:=k.tup;injection ev with _ i _;have:=Eg l h o t;have j:=(k.kept p (by omega)).1;rw[<-i]at j;exact⟨i.symm,by omega,λd f=>(j.alloc d).alloc f⟩
theorem GP{n r:Nat}{s:ByteArray}{S y:List fq}{w wr w1 f:World}{b e m:Nat}{a:Option Addr}{L c:Nat}{l:List (Tm (n+1))}(ak:r<w.heap.size)(D:Hb n r s S w b e (.slice a L c) wr l y)(ag:xX (s.extract b e)=false){k z:Int}{t:ByteArray}{q:Option Addr}{x u:Nat}(R:lg (n+1) s r y (wr.drewN m) w1 (.agg #[ab k,ab z,ae t,.slice q x u]) true){O P:Obj}{g h:Nat}(af:l.length=L)(I:f.ownsRow (w.heap.size+2) 30 4 (.slice (some ⟨g,0,none⟩) (L+1) h) (L+1) (cm (l.map (fX (n+1)))++ [ab k,ab z,ae t,.slice q x u]))(v:((w1.alloc O).alloc P).grownBy f (Value.slice a L c).ownBlock)(ah:(Value.slice a L c).ownBlock=some g\/g=w1.heap.size+2):(Bx (w.heap.size+1) (ab 4) (ab 0) (ae ⟨#[]⟩) (.slice a L c) f/\ ∃j o,Kp n r s S w j o (.slice (some ⟨g,0,none⟩) (L+1) h) (f.setCell ⟨w.heap.size+1,3,none⟩ (.slice (some ⟨g,0,none⟩) (L+1) h))/\NQ r s (f.setCell ⟨w.heap.size+1,3,none⟩ (.slice (some ⟨g,0,none⟩) (L+1) h))<NQ r s wr):=by
 subst af;obtain⟨ap,aq,aD⟩:=xh ak D R.1;obtain⟨X,E,Y,F,az,Z,aa,aA,ad⟩:=D;obtain⟨W,j,o,T,am,M,an,_⟩:=R;have C:wr.grownBy w1 (some r):=bP (eu wr m _) W;obtain⟨⟨i,p,U,ar,au⟩,aw⟩:=an rfl;have H:∀b,(Value.slice a l.length c).ownBlock=some b->w.heap.size+2<=b:=λb e=>(F.1.lt b e).1;have ai:uF (fX (n+1) i)=[ab k,ab z,ae t,.slice q x u]:=by
  have V:df (n+1) i=.agg (uF (fX (n+1) i)).toArray:=rfl;rw[V]at p;injection p with p;exact lX.2 p
 rw[<-ai]at I;have K:=F.snoc C (by omega) ar au (by have:=Z.lt;simp;omega) (w1:=(w1.alloc O).alloc P) (fz (fz (eu w1 0 _) _) _) I v (by simpa using ah);have aj:∀d,d<w.heap.size+2->some d≠(Value.slice a l.length c).ownBlock:=λd J e=>by have:=H d e.symm;omega
 have A:∀d,d<w.heap.size+2->f.heap[d]?=w1.heap[d]? :=λd J=>(v.block d (by simp;omega) (aj d J)).trans ((fw _ _ (by simp;omega)).trans (fw _ _ (by omega)));have Q:=aq.block (A (w.heap.size+1) (by omega));have ao:Rd r s j o f:=am.block (A r (by omega));have ay:f.heap.size=(f.setCell ⟨w.heap.size+1,3,none⟩ (.slice (some ⟨g,0,none⟩) (l.length+1) h)).heap.size:=by simp[World.setCell]
 have N:=ao.far (g:=w.heap.size+1) (by omega) 3 (.slice (some ⟨g,0,none⟩) (l.length+1) h);have aB:=tj (n+1) i y T U;have aC:0<(av (n+1) i).length:=by simp[av]
 refine⟨Q,j,o,⟨l++ [i],T,N,M,?_,?_,?_,Q.set3 _,aa.snoc U,by omega,λB=>?_⟩,?_⟩
 ·refine lK (FM (fz (fz (bP Y C) _) _) v λb G=>?_) (by simp) _ _;have:=H b G;simp;omega
 ·refine⟨ownsRow_setCell_below (by simpa using K.1) (by simp) _,λax al=>?_⟩;obtain⟨y1,y2⟩:=K.2 ax al;refine⟨?_,y2⟩;rw[<-ay];exact In.off (λb G=>eJ _ _ _ _ (by simp;omega)) y2 y1
 ·exact(ap.block (A w.heap.size (by omega))).block (eJ _ _ _ _ (by simp))
 ·rw[ad B,Ba _ _ _ (E.no ag)];exact aw (B+1)
 ·rw[IZ N M,IZ X E];omega
theorem Fs(w:World)(o:Obj)(v0 v1 v2 v3:Value)(e:TypeId):∀(j:Nat)(a:Value),[v0,v1,v2,v3][j]?=some a->((w.alloc o).alloc (.cells #[v0,v1,v2,v3] e)).cell? ((⟨w.heap.size+1,0,none⟩:Addr).add j)=some a:=by
 intro j a b;rw[eV];rw[World.cell?_alloc_at _ _ _ _ (by simp)];simpa using b
theorem Iz(k d:Int)(t:ByteArray)(a:Option Addr)(l c:Nat):∀v∈[Value.int .i64 k,ab d,ae t,.slice a l c],v.oneCell'=true:=by
 intro v b;simp at b;rcases b with rfl|rfl|rfl|rfl<;>rfl
theorem Dy(n:Nat)(ih:L0 n)(r:Nat)(s:ByteArray)(b e:Nat)(I:fq)(y:List fq)(w:World)(G:Rd r s b e w)(R:At s b e (I::y))(E:s.size<=2048)(V:y.length<=n)(W:BQ I.2=true):ak 94 #[.pointer (some ⟨r,0,none⟩)] w λg w'=>Kn (n+2) s r (I::y) w w' g:=by
 have q:=G.lt;obtain⟨aB,U,Y,Z,aa⟩:=bQ fY;have B:=ao (⟨U,Y,Z,aa⟩:_/\_/\_/\_);clear U Y Z aa;have d:=ao (⟨G,R,E,V,W⟩:_/\_/\_/\_/\_);have al:=ao ih;clear G R V W ih;go_enter Tryz.func94,Tryz.ntmps94;go_wp2_with (go_at_call 61;refine(qD r s b e _ ((d.out.1.alloc _).alloc _) d.out.2.1.2.1 E).mono ?_;rintro g ah ⟨rfl,m⟩);go_loopw [] (λwr=>∃(b e:Nat)(D:Option Addr)(u c:Nat),Hid (Kp n r s y w b e (.slice D u c) wr)/\True) (λwr=>NQ r s wr)
 case atStart=>exact⟨_,_,_,_,_,GQ d.out.1 d.out.2.1 m.out.1 m.out.2,trivial⟩
 case round=>
  obtain⟨f,h,D,u,c,Q,_⟩:=hrel;clear m;obtain⟨l,J,i⟩:=Q.out;replace i:=ao i;obtain⟨j,ad⟩:∃j,s.extract f h=j:=⟨_,rfl⟩;have C:=ao ad;clear ad;have a:Hid (Rd r s f h wr/\At s f h J/\J.length<=n/\y.length<=2048):=by
   obtain⟨o,p,H,aL,aM,aN,aO,ay,aP⟩:=i.out;refine⟨o,p,ax ay d.out.2.2.2.1,?_⟩;have:=kZ s (s.size-e) e (aj _);rw[<-d.out.2.1.cons.2.1]at this;omega
  cases hc:(j.toList==[41])
  ·have aQ:(j.toList=[41])=False:=by simpa using hc
   have aR:(j.toList !=[41])=true:=by simpa using hc
   have P:Hid (xX (s.extract f h)=false):=by rw[C.out];exact hc
   go_wp2_with (first
    | (go_at_call 63;refine(oz r s f h j wr a.out.1 a.out.2.1.1 a.out.2.1.2.1 C.out).mono ?_;rintro g ah ⟨rfl,x,rfl⟩)
    | (go_at_call 62;refine(al.out r s f h J (wr.drewN x) (a.out.1.drew x) a.out.2.1 E a.out.2.2.1).mono ?_;rintro g F ⟨k,aH,t,am,aG,ap,ok,rfl,A⟩;obtain⟨af,ag,aS⟩:=xh q i.out A.out.1;have az:w.heap.size<F.heap.size:=(by omega);obtain⟨⟨K,L,M,N⟩,aq,au,av,aw⟩:=af.cells;obtain⟨⟨y0,y1,y2,aI⟩,aC,aD,aE,aF⟩:=ag.cells;clear af ag;cases ok)
    | (at_builtin;have z:=ao (LJ q i.out A.out.1 a.out.2.2.2);refine wpList_append_lies _ rfl _ _ 28 rfl (w.heap.size+2) 30 aB _ 4 56 Tryz.underlying28 B.out.1 B.out.2.1 B.out.2.2.1 B.out.2.2.2 rfl (by decide) _ u _ rfl (z.out.2.2 _ _) ⟨F.heap.size+1,0,none⟩ 1 1 [ab k,ab aH,ae t,.slice am aG ap] rfl rfl (Fs _ _ _ _ _ _ _) (Iz _ _ _ _ _ _) (by decide) (by have:=z.out.2.1;unfold maxLen;omega) (by have:=z.out.2.1;omega) (by simp;omega) (F.heap.size+2) (by simp) ?_;intro aK aJ aX X T S aA;have O:=ao (GP q i.out P.out A.out z.out.1 X T S);obtain⟨⟨aY,aZ,a0,a1⟩,aT,aU,aV,aW⟩:=O.out.1.cells;clear X T S aA))
   ·exact ar (v:=.tuple #[.agg #[ab 0,ab 0,ae ⟨#[]⟩,.slice none 0 0],.bool false]) (by simp[results,Tryz.results94,go_sem,K,L,M,N,az]) rfl ⟨0,0,⟨#[]⟩,none,0,0,false,rfl,(lg.box q (GO d.out.2.2.2.2 i.out P.out A.out _) _ _ _ _).alloc _⟩
   ·obtain⟨an,g,o,p⟩:=O.out.2;go_roundw
    case rel=>exact⟨an,g,_,_,_,o,trivial⟩
    case measure=>exact p
  ·go_wp2_with (first
     | (go_at_call 63;refine(oz r s f h j wr a.out.1 a.out.2.1.1 a.out.2.1.2.1 C.out).mono ?_;rintro g ah ⟨rfl,x,rfl⟩)
     | (go_at_call 61;refine(qD r s f h (wr.drewN x) (a.out.1.drew x) a.out.2.1.2.1 E).mono ?_;rintro g F ⟨rfl,m⟩;obtain⟨o,p,H⟩:=GN q d.out.2.2.2.2 Q.out (by rw[C.out];exact hc) m.out.1 m.out.2;obtain⟨⟨K,L,M,N⟩,aq,au,av,aw⟩:=p.cells;obtain⟨⟨y0,y1,y2,aI⟩,aC,aD,aE,aF⟩:=H.cells;have ai:=ao (lg.box q o);clear o p H))
   exact ar (v:=.tuple #[.agg #[ab 4,ab 0,ae ⟨#[]⟩,.slice D u c],.bool true]) (by simp[results,Tryz.results94,go_sem,K,L,M,N]) rfl ⟨4,0,⟨#[]⟩,D,u,c,true,rfl,ai.out _ _ _ _⟩
end Go.Proofs.YtckamaoibonjcaaGreat
