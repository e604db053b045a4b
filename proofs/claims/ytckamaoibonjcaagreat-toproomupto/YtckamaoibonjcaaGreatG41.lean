/- What is proved here: plain facts and contracts that the claimed theorem stands on. No condition but those that each names. -/
import Derived.Test.YtckamaoibonjcaaGreatG40
namespace Go.Proofs.YtckamaoibonjcaaGreat
open Go.RowKit
set_option maxHeartbeats 8000000
def gP(s:ByteArray):ByteArray:=s.extract 1 s.size
def eY(s:ByteArray):Bool:=
 if s.data.toList[0]?=some 35 then ew (gP s) 2
 else if s.data.toList[0]?=some 36 then ew (gP s) 2
 else if s.data.toList[0]?=some 45 then ew (gP s) 13 && !(kH (gP s).data.toList==0)
 else if s.toList==[95]then true
 else if ew s 13 then true
 else decide (0<s.size) && fL s.data.toList
def kA(s:ByteArray):Int×Int×ByteArray:=
 if s.data.toList[0]?=some 35 then (3,kH (gP s).data.toList,⟨#[]⟩)
 else if s.data.toList[0]?=some 36 then (5,kH (gP s).data.toList,⟨#[]⟩)
 else if s.data.toList[0]?=some 45 then (1,-kH (gP s).data.toList,⟨#[]⟩)
 else if s.toList==[95]then (6,0,⟨#[]⟩)
 else if ew s 13 then (1,kH s.data.toList,⟨#[]⟩)
 else (2,0,s)
def JY(s:ByteArray)(e:Ending):Prop:=
 ∃(k a:Int)(t:ByteArray)(b:Bool),e=.returned (.tuple #[.agg #[.int .i64 k,.int .i64 a,.string t,.slice none 0 0],.bool b])/\Hid (b=eY s/\(b=true->(k,a,t)=kA s)/\t.size<=s.size/\dh k/\dh a)
theorem De(s:ByteArray):(gP s).size<=s.size:=by simp[gP]
def L8(k:Int)(s:ByteArray)(e:Ending):Prop:=
 ∃(a:Int)(b:Bool),e=.returned (.tuple #[.agg #[.int .i64 k,.int .i64 a,.string ⟨#[]⟩,.slice none 0 0],.bool b])/\Hid (b=ew s 2/\0<=a/\a<100000000000000/\(b=true->a=kH s.data.toList))
theorem qz(k:Int)(s:ByteArray)(w:World)(c:s.size<=9223372036854775807):ah 127 #[.int .i64 k,.string s] w λe w'=>L8 k s e/\ag w w':=by
 go_enter Tryz.func127,Tryz.ntmps127;go_wp2_with (go_at_call 128;refine(ny _ _ _ c (by omega)).mono ?_;rintro e w' ⟨⟨v,b,rfl,a⟩,rfl⟩);exact ap (v:=.tuple #[.agg #[.int .i64 k,.int .i64 v,.string ⟨#[]⟩,.slice none 0 0],.bool b]) (by simp[results,Tryz.results127,go_sem]) rfl ⟨⟨v,b,rfl,a⟩,by go_grown⟩
theorem EL(s:ByteArray)(w:World)(b:s.size<=2048):ah 41 #[.string s] w λe w'=>e=.returned (.string s)/\ag w w':=by
 go_enter Tryz.func41,Tryz.ntmps41;go_wp2_with (go_at_call 67;refine(Tryz.stringslite_Clone s w (by omega)).mono ?_;rintro e w' ⟨rfl,a⟩)
 go_ret
 exact⟨rfl,a⟩
theorem ET(s:ByteArray)(a:0<s.size)(b:tM s[0]=false)(m:Int):ew s m=false:=by simp[ew,vK s 0 a b]
theorem Fs(s:ByteArray)(a:0<s.size)(c:xR s[0]=false):fL s.data.toList=false:=by
 have b:fL s.data.toList=(fL (s.data.toList.take 1) && fL (s.data.toList.drop 1)):=by
  conv=>lhs;rw[<-jf 1 s.data.toList]
  simp only[fL,jV]
 rw[b,uj s 0 a,c];simp
theorem Mi(s:ByteArray)(d:0<s.size)(b:¬s[0]=95):(s.toList==[95])=false:=by
 rw[bW];have a:=qr s d;cases hl:s.data.toList with
 | nil=>rfl
 | cons c l=>
  rw[hl]at a;simp at a;rw[<-a]at b;simp[b]
def oL(k a:Int)(t:ByteArray):Value:=.agg #[.int .i64 k,.int .i64 a,.string t,.slice none 0 0]
theorem df{a:Int}(b: -100000000000000<=a)(c:a<=100000000000000):dh a:=⟨by omega,by omega⟩
theorem xo{w w':World}{v0 v1 v2 v3:Value}{t:TypeId}(c:Below (w.alloc (.cells #[v0,v1,v2,v3] t)).heap.size (w.alloc (.cells #[v0,v1,v2,v3] t)) w'):(w'.cell? ⟨w.heap.size,0,none⟩=some v0/\w'.cell? ⟨w.heap.size,1,none⟩=some v1/\w'.cell? ⟨w.heap.size,2,none⟩=some v2/\w'.cell? ⟨w.heap.size,3,none⟩=some v3)/\ (w'.frozen? ⟨w.heap.size,0,none⟩=false/\w'.frozen? ⟨w.heap.size,1,none⟩=false/\w'.frozen? ⟨w.heap.size,2,none⟩=false/\w'.frozen? ⟨w.heap.size,3,none⟩=false):=by
 have a:=λo=>c.cell (p:=⟨w.heap.size,o,none⟩) (by simp);have b:=λo=>c.frozen (p:=⟨w.heap.size,o,none⟩) (by simp);exact⟨⟨(a 0).trans (by simp[go_sem]),(a 1).trans (by simp[go_sem]),(a 2).trans (by simp[go_sem]),(a 3).trans (by simp[go_sem])⟩,(b 0).trans (by simp[go_sem]),(b 1).trans (by simp[go_sem]),(b 2).trans (by simp[go_sem]),(b 3).trans (by simp[go_sem])⟩
theorem Ce{w w':World}{o:Obj}(e:Below (w.alloc o).heap.size (w.alloc o) w')(a b c d:Value):ag w ((((w'.setCell ⟨w.heap.size,0,none⟩ a).setCell ⟨w.heap.size,1,none⟩ b).setCell ⟨w.heap.size,2,none⟩ c).setCell ⟨w.heap.size,3,none⟩ d):=by
 have f:ag w w':=((ak _ _).alloc (ai _) _).trans (e.mono (by simp))
 go_grown
theorem FT(s:ByteArray)(w:World)(C:s.size<=2048):ah 95 #[.string s] w λe w'=>JY s e/\ag w w':=by
 have K:=De s;by_cases g:0<s.size
 ·have p:=A5 g;have A:(s.toList=[])=False:=by simpa using p
  have i:=aj (qr s g);have J:(1:Int)<=s.size:=by omega
  by_cases j:s[0]=95
  ·have c:Hid (eY s=(s.toList==[95])/\((s.toList==[95])=true->kA s=(6,0,⟨#[]⟩))):=by
     simp only[Hid,eY,kA,i.out,j,ET s g (by simp[tM,j]) 13,Fs s g (by simp[xR,j])];cases h:(s.toList==[95])<;>simp
   go_enter Tryz.func95,Tryz.ntmps95;go_wp2_with fail;exact ap (v:=.tuple #[oL 6 0 ⟨#[]⟩,.bool (s.toList==[95])]) (by simp[results,Tryz.results95,go_sem,oL]) rfl ⟨⟨6,0,⟨#[]⟩,_,rfl,c.out.1.symm,λh=>(c.out.2 h).symm,aB _,df (by omega) (by omega),df (by omega) (by omega)⟩,by go_grown⟩
  ·have d1:=jC (k:=95) (d:=95) rfl j;by_cases q:s[0]=35
   ·have c:Hid (eY s=ew (gP s) 2/\kA s=(3,kH (gP s).data.toList,⟨#[]⟩)):=by
      simp[Hid,eY,kA,i.out,q]
    go_enter Tryz.func95,Tryz.ntmps95;go_wp2_with (go_at_call 127;refine(qz 3 (gP s) _ (by omega)).mono ?_;rintro e w' ⟨⟨v,b,rfl,a⟩,f⟩;obtain⟨⟨l,m,n,o⟩,u,x,y,z⟩:=xo f;have HB:=aj (Ce f);clear f);exact ap (v:=.tuple #[oL 3 v ⟨#[]⟩,.bool b]) (by simp[results,Tryz.results95,go_sem,oL,l,m,n,o]) rfl ⟨⟨3,v,⟨#[]⟩,_,rfl,by rw[c.out.1,a.out.1],λh=>by rw[c.out.2,a.out.2.2.2 h],aB _,df (by omega) (by omega),df (by have:=a.out.2.1;omega) (by have:=a.out.2.2.1;omega)⟩,HB.out _ _ _ _⟩
   ·have G:=jC (k:=35) (d:=35) rfl q;by_cases r:s[0]=36
    ·have c:Hid (eY s=ew (gP s) 2/\kA s=(5,kH (gP s).data.toList,⟨#[]⟩)):=by
       simp[Hid,eY,kA,i.out,r]
     go_enter Tryz.func95,Tryz.ntmps95;go_wp2_with (go_at_call 127;refine(qz 5 (gP s) _ (by omega)).mono ?_;rintro e w' ⟨⟨v,b,rfl,a⟩,f⟩;obtain⟨⟨l,m,n,o⟩,u,x,y,z⟩:=xo f;have HB:=aj (Ce f);clear f);exact ap (v:=.tuple #[oL 5 v ⟨#[]⟩,.bool b]) (by simp[results,Tryz.results95,go_sem,oL,l,m,n,o]) rfl ⟨⟨5,v,⟨#[]⟩,_,rfl,by rw[c.out.1,a.out.1],λh=>by rw[c.out.2,a.out.2.2.2 h],aB _,df (by omega) (by omega),df (by have:=a.out.2.1;omega) (by have:=a.out.2.2.1;omega)⟩,HB.out _ _ _ _⟩
    ·have H:=jC (k:=36) (d:=36) rfl r;by_cases t:s[0]=45
     ·have c:Hid (eY s=(ew (gP s) 13 && !(kH (gP s).data.toList==0))/\kA s=(1,-kH (gP s).data.toList,⟨#[]⟩)):=by
        simp[Hid,eY,kA,i.out,t]
      go_enter Tryz.func95,Tryz.ntmps95;go_wp2_with (go_at_call 128;refine(ny (gP s) 13 _ (by omega) (by omega)).mono ?_;rintro e w' ⟨⟨v,b,rfl,a⟩,rfl⟩;obtain⟨E,F⟩:=(⟨a.out.2.1,a.out.2.2.1⟩:0<=v/\v<100000000000000);cases b)
      ·exact ap (v:=.tuple #[oL 1 (-v) ⟨#[]⟩,.bool false]) (by simp[results,Tryz.results95,go_sem,oL]) rfl ⟨⟨1,-v,⟨#[]⟩,_,rfl,by rw[c.out.1,<-a.out.1];rfl,by simp,aB _,df (by omega) (by omega),df (by omega) (by omega)⟩,by go_grown⟩
      ·exact ap (v:=.tuple #[oL 1 (-v) ⟨#[]⟩,.bool (v !=0)]) (by simp[results,Tryz.results95,go_sem,oL]) rfl ⟨⟨1,-v,⟨#[]⟩,_,rfl,by rw[c.out.1,<-a.out.1,<-a.out.2.2.2 (by trivial)];simp[bne],λ_=>by rw[c.out.2,a.out.2.2.2 (by trivial)],aB _,df (by omega) (by omega),df (by omega) (by omega)⟩,by go_grown⟩
     ·have I:=jC (k:=45) (d:=45) rfl t;have c:Hid (eY s=(ew s 13 || fL s.data.toList)/\(kA s=if ew s 13=true then (1,kH s.data.toList,⟨#[]⟩)else (2,0,s))):=by
       simp only[Hid,eY,kA,i.out,Mi s g j];simp[q,r,t];cases ew s 13<;>simp[g]
      go_enter Tryz.func95,Tryz.ntmps95
      go_wp2_with (first
       | (go_at_call 128;refine(ny s 13 _ (by omega) (by omega)).mono ?_;rintro e w' ⟨⟨v,b,rfl,a⟩,rfl⟩;obtain⟨E,F⟩:=(⟨a.out.2.1,a.out.2.2.1⟩:0<=v/\v<100000000000000);cases b)
       | (go_at_call 41;refine(EL s _ C).mono ?_;rintro e L ⟨rfl,f⟩;obtain⟨⟨l,m,n,o⟩,u,x,y,z⟩:=xo f;have HB:=aj (Ce f);clear f)
       | (go_at_call 96;refine(rZ s _ (by omega)).mono ?_;rintro e M ⟨rfl,rfl⟩))
      ·exact ap (v:=.tuple #[oL 2 0 s,.bool (fL s.data.toList)]) (by simp[results,Tryz.results95,go_sem,oL,l,m,n,o]) rfl ⟨⟨2,0,s,_,rfl,by rw[c.out.1,<-a.out.1];rfl,λ_=>by rw[c.out.2,<-a.out.1];rfl,ai _,df (by omega) (by omega),df (by omega) (by omega)⟩,HB.out _ _ _ _⟩
      ·exact ap (v:=.tuple #[oL 1 v ⟨#[]⟩,.bool true]) (by simp[results,Tryz.results95,go_sem,oL]) rfl ⟨⟨1,v,⟨#[]⟩,_,rfl,by rw[c.out.1,<-a.out.1];rfl,λ_=>by rw[c.out.2,<-a.out.1,a.out.2.2.2 (by trivial)];rfl,aB _,df (by omega) (by omega),df (by omega) (by omega)⟩,by go_grown⟩
 ·have p:=A4 g;have A:(s.toList=[])=True:=by simpa using p
  have c:Hid (eY s=false):=by
   have D:s.size=0:=by omega
   have B:s.data.toList=[]:=by rw[<-bW];simpa using p
   simp[Hid,eY,bW,ew,B,D]
  go_enter Tryz.func95,Tryz.ntmps95;go_wp2_with fail;exact ap (v:=.tuple #[oL 0 0 ⟨#[]⟩,.bool false]) (by simp[results,Tryz.results95,go_sem,oL]) rfl ⟨⟨0,0,⟨#[]⟩,_,rfl,c.out.symm,by simp,aB _,df (by omega) (by omega),df (by omega) (by omega)⟩,by go_grown⟩
def Ml(c:UInt8):Bool:=c==32
def xH(c:UInt8):Bool:=c==32 || c==40 || c==41
def fu(p:UInt8->Bool)(s:ByteArray)(i:Nat):Nat:=i+((s.data.toList.drop i).takeWhile p).length
theorem DO(s:ByteArray)(k:Nat)(a:k<s.size):s.data.toList.drop k=s[k]::s.data.toList.drop (k+1):=by
 rw[eP (by simpa using a)];rfl
theorem wJ{p:UInt8->Bool}{s:ByteArray}{k:Nat}(a:k<s.size)(b:p s[k]=true):fu p s (k+1)=fu p s k:=by
 unfold fu;rw[DO s k a,List.takeWhile_cons,if_pos b,aV];omega
theorem wK{p:UInt8->Bool}{s:ByteArray}{k:Nat}(a:k<s.size)(b:p s[k]=false):fu p s k=k:=by
 unfold fu;rw[DO s k a,List.takeWhile_cons,if_neg (by simp[b])];rfl
theorem A6{p:UInt8->Bool}{s:ByteArray}{k:Nat}(a:¬k<s.size):fu p s k=k:=by
 unfold fu;rw[ov (by simp;omega)];rfl
theorem yy(p:UInt8->Bool)(s:ByteArray)(k:Nat):k<=fu p s k:=jh _ _
theorem El(p:UInt8->Bool)(s:ByteArray)(k:Nat)(a:k<=s.size):fu p s k<=s.size:=by
 unfold fu;have b:=(List.takeWhile_sublist (l:=s.data.toList.drop k) p).length_le;have c:(s.data.toList.drop k).length=s.size-k:=by simp
 omega
def dq(s:ByteArray)(i:Nat):Nat:=fu Ml s i
def dW(s:ByteArray)(i:Nat):Nat:=if fu (λc=> !xH c) s (dq s i)=dq s i/\dq s i<s.size then dq s i+1 else fu (λc=> !xH c) s (dq s i)
theorem lU(s:ByteArray)(i:Nat):i<=dq s i:=yy _ _ _
theorem Bu(s:ByteArray)(i:Nat)(a:i<=s.size):dq s i<=s.size:=El _ _ _ a
theorem Bv(s:ByteArray)(i:Nat):dq s i<=dW s i:=by
 unfold dW;have:=yy (λc=> !xH c) s (dq s i);split<;>omega
theorem Bw(s:ByteArray)(i:Nat)(a:i<=s.size):dW s i<=s.size:=by
 unfold dW;have:=El (λc=> !xH c) s (dq s i) (Bu s i a);split<;>omega
theorem qQ(s:ByteArray)(i:Nat)(a:dq s i<s.size):dq s i<dW s i:=by
 unfold dW;have:=yy (λc=> !xH c) s (dq s i);split<;>omega
theorem GH(s:ByteArray)(i:Nat)(a:i<=s.size)(b:¬dq s i<s.size):dq s i=s.size/\dW s i=s.size:=by
 have c:=Bu s i a;have d:=Bw s i a;have e:=Bv s i;omega
def Rd(r:Nat)(s:ByteArray)(b e:Nat)(w:World):Prop:=w.heap[r]?=some (.cells #[.string s,.int .i64 b,.int .i64 e] 133)
theorem Rd.cells{r:Nat}{s:ByteArray}{b e:Nat}{w:World}(a:Rd r s b e w):(w.cell? ⟨r,0,none⟩=some (.string s)/\w.cell? ⟨r,1,none⟩=some (.int .i64 b)/\w.cell? ⟨r,2,none⟩=some (.int .i64 e))/\w.frozen? ⟨r,1,none⟩=false/\w.frozen? ⟨r,2,none⟩=false:=by
 unfold Rd at a;exact⟨⟨by simp[World.cell?,a],by simp[World.cell?,a],by simp[World.cell?,a]⟩,by simp[World.frozen?,a],by simp[World.frozen?,a]⟩
theorem Rd.set1{r:Nat}{s:ByteArray}{b e:Nat}{w:World}(a:Rd r s b e w)(k:Nat):Rd r s k e (w.setCell ⟨r,1,none⟩ (.int .i64 k)):=by
 unfold Rd at*;simp[World.setCell,bC,a]
theorem Rd.set2{r:Nat}{s:ByteArray}{b e:Nat}{w:World}(a:Rd r s b e w)(k:Nat):Rd r s b k (w.setCell ⟨r,2,none⟩ (.int .i64 k)):=by
 unfold Rd at*;simp[World.setCell,bC,a]
theorem Rd.drew{r:Nat}{s:ByteArray}{b e:Nat}{w:World}(a:Rd r s b e w)(n:Nat):Rd r s b e (w.drewN n):=a
theorem Rd.lt{r:Nat}{s:ByteArray}{b e:Nat}{w:World}(a:Rd r s b e w):r<w.heap.size:=(aA.1 a).1
theorem lJ(w:World)(r o:Nat)(v:Value):w.grownBy (w.setCell ⟨r,o,none⟩ v) (some r):=
 ⟨rfl,rfl,rfl,by simp[World.setCell],λk _ b=>eA w _ v k (λa=>b (by rw[a]))⟩
theorem eh(w:World)(n:Nat)(q:Option Nat):w.grownBy (w.drewN n) q:=⟨rfl,rfl,rfl,ai _,λ_ _ _=>rfl⟩
theorem bN{w w1 w2:World}{q:Option Nat}(a:w.grownBy w1 q)(k:w1.grownBy w2 q):w.grownBy w2 q:=
 ⟨k.os.trans a.os,k.tape.trans a.tape,k.output.trans a.output,aw a.size k.size,λd b c=>(k.block d (aJ b a.size) c).trans (a.block d b c)⟩
theorem Hu(c:UInt8)(w:World):ah 93 #[.int .u8 c.toNat] w λe w'=>e=.returned (.bool (xH c))/\w'=w:=by
 by_cases a:c=32
 ·subst a;go_enter Tryz.func93,Tryz.ntmps93;go_wp2_with fail
  all_goals go_ret
  all_goals exact⟨rfl,rfl⟩
 ·have d1:=jC (k:=32) (d:=32) rfl a;by_cases b:c=40
  ·subst b;go_enter Tryz.func93,Tryz.ntmps93;go_wp2_with fail
   all_goals go_ret
   all_goals exact⟨rfl,rfl⟩
  ·have g:=jC (k:=40) (d:=40) rfl b;by_cases f:c=41
   ·subst f;go_enter Tryz.func93,Tryz.ntmps93;go_wp2_with fail
    all_goals go_ret
    all_goals exact⟨rfl,rfl⟩
   ·have h:=jC (k:=41) (d:=41) rfl f;go_enter Tryz.func93,Tryz.ntmps93;go_wp2_with fail
    all_goals go_ret
    all_goals exact⟨bG (by rw[show xH c=false by simp[xH,a,b,f]];simp;omega),rfl⟩
theorem JK(r:Nat)(s:ByteArray)(b e:Nat)(w:World)(a:Rd r s b e w)(j:b<=e)(l:e<=s.size):ah 63 #[.pointer (some ⟨r,0,none⟩)] w λc w'=>c=.returned (.string (s.extract b e))/\∃n,w'=w.drewN n:=by
 obtain⟨⟨d,f,g⟩,h,i⟩:=a.cells;clear a;have k:(b:Int)<=e:=by omega
 have m:(e:Int)<=s.size:=by omega
 go_enter Tryz.func63,Tryz.ntmps63;go_wp2_with fail
 go_quiet (fail)
 go_wp2_with fail
 go_ret
 exact⟨by simp,_,rfl⟩
theorem pC{w w1 w2:World}{q:Option Nat}(a:w.grownBy w1 q)(c:w2.os=w1.os)(d:w2.tape=w1.tape)(e:w2.output=w1.output)(b:w2.heap=w1.heap):w.grownBy w2 q:=
 ⟨c.trans a.os,d.trans a.tape,e.trans a.output,by rw[b];exact a.size,λk f g=>by rw[b];exact a.block k f g⟩
theorem DP(c:UInt8)(w:World)(b:Bool)(a:xH c=b):ah 93 #[.int .u8 c.toNat] w λe w'=>e=.returned (.bool b)/\w'=w:=by
 rw[<-a];exact Hu c w
theorem qx(r:Nat)(s:ByteArray)(H g:Nat)(w:World)(e:Rd r s H g w)(L:g<=s.size)(X:s.size<=2048):ah 61 #[.pointer (some ⟨r,0,none⟩)] w λI w'=>I=.returned (.tuple #[])/\Hid (Rd r s (dq s g) (dW s g) w'/\w.grownBy w' (some r)):=by
 obtain⟨⟨B,v,x⟩,C,D⟩:=e.cells;have z:=aj (⟨e.set1 g,lJ w r 1 (.int .i64 g)⟩:_/\_);clear e;go_enter Tryz.func61,Tryz.ntmps61;go_wp2_with fail;go_loopw [] (λwr=>∃k:Nat,k<=s.size/\Hid (Rd r s k g wr/\w.grownBy wr (some r)/\fu Ml s k=dq s g)/\True) (λwr=>s.size-(intOf ((wr.cell? ⟨r,1,none⟩).getD undef)).toNat)
 case atStart=>exact⟨g,L,⟨z.out.1,z.out.2,rfl⟩,trivial⟩
 case round=>
  obtain⟨k,M,j,_⟩:=hrel;obtain⟨⟨B,v,x⟩,C,D⟩:=j.out.1.cells;by_cases h:∃e:k<s.size,s[k]=32
  ·obtain⟨b,J⟩:=h;have N:(k:Int)<s.size:=by omega
   have E:decide ((k:Int)<s.size)=true:=by simp;omega
   have u:=aj (wJ (p:=Ml) b (by simp[Ml,J]));go_wp2_with fail
   go_quiet (fail)
   go_wp2_with fail;go_roundw
   case rel=>exact⟨k+1,by omega,⟨(j.out.1.drew nq).set1 (k+1),bN j.out.2.1 (bN (eh wr nq _) (lJ _ _ _ _)),by rw[u.out];exact j.out.2.2⟩,trivial⟩
   case measure=>simp[go_sem,v,intOf];omega
  ·have i:Hid (dq s g=k):=by
     rw[<-j.out.2.2];by_cases b:k<s.size
     ·exact wK (p:=Ml) b (by simp[Ml];exact λe=>h ⟨b,e⟩)
     ·exact A6 (p:=Ml) b
   have K:((¬k<s.size)/\decide ((k:Int)<s.size)=false)\/((k:Int)<s.size/\decide ((k:Int)<s.size)=true/\∃e:k<s.size,((s[k].toNat:Int)==32)=false):=by
    by_cases b:k<s.size
    ·have U:=jC (k:=32) (d:=32) rfl (λe=>h ⟨b,e⟩);exact af ⟨by omega,by simp;omega,b,by simp;omega⟩
    ·exact ae ⟨b,by simp;omega⟩
   clear h;rcases K with⟨b,E⟩|⟨N,E,b,V⟩
   all_goals
    go_wp2_with fail
    go_quiet (fail)
    have A:=aj (show Rd r s k k ((wr.drewN nq).setCell ⟨r,2,none⟩ (.int .i64 k))/\w.grownBy ((wr.drewN nq).setCell ⟨r,2,none⟩ (.int .i64 k)) (some r)from⟨(j.out.1.drew nq).set2 k,bN j.out.2.1 (bN (eh wr nq _) (lJ _ _ _ _))⟩);go_wp2_with fail;go_loopw [] (λq=>∃a:Nat,a<=s.size/\k<=a/\Hid (Rd r s k a q/\w.grownBy q (some r)/\fu (λc=> !xH c) s a=fu (λc=> !xH c) s k)/\True) (λq=>s.size-(intOf ((q.cell? ⟨r,2,none⟩).getD undef)).toNat)
    case atStart=>exact⟨k,M,ai _,⟨A.out.1,A.out.2,rfl⟩,trivial⟩
    case round=>
     obtain⟨a,W,F,f,_⟩:=hrel;obtain⟨⟨B,v,x⟩,C,D⟩:=f.out.1.cells;by_cases h:∃e:a<s.size,xH s[a]=false
     ·obtain⟨n,o⟩:=h;have y:k<s.size:=Nat.lt_of_le_of_lt F n
      first|exact absurd y b|skip
      all_goals
       have T:(a:Int)<s.size:=by omega
       have G:decide ((a:Int)<s.size)=true:=by simp;omega
       have u:=aj (wJ (p:=λc=> !xH c) n (by simp[o]));go_wp2_with fail
       go_quiet ((go_at_call 93;exact Calls.quiet_of_same (DP s[a] _ _ o)))
       go_wp2_with fail;go_roundw
       case rel=>exact⟨a+1,by omega,by omega,⟨(f.out.1.drew _).set2 (a+1),bN f.out.2.1 (bN (eh _ _ _) (lJ _ _ _ _)),by rw[u.out];exact f.out.2.2⟩,trivial⟩
       case measure=>simp[go_sem,x,intOf];omega
     ·have t:Hid (fu (λc=> !xH c) s k=a):=by
        rw[<-f.out.2.2];by_cases b:a<s.size
        ·exact wK (p:=λc=> !xH c) b (by simp;cases e:xH s[a];exact absurd ⟨b,e⟩ h;rfl)
        ·exact A6 (p:=λc=> !xH c) b
      have S:((¬a<s.size)/\decide ((a:Int)<s.size)=false)\/((a:Int)<s.size/\decide ((a:Int)<s.size)=true/\∃e:a<s.size,xH s[a]=true):=by
       by_cases b:a<s.size
       ·exact af ⟨by omega,by simp;omega,b,by cases e:xH s[a];exact absurd ⟨b,e⟩ h;rfl⟩
       ·exact ae ⟨b,by simp;omega⟩
      clear h;rcases S with⟨n,G⟩|⟨T,G,n,o⟩
      ·have m:Hid (dW s g=a):=by
         simp only[Hid,dW,i.out,t.out];rw[if_neg (by omega)]
       go_wp2_with fail
       go_quiet (fail)
       go_wp2_with fail;by_cases l:a=k
       ·first|exact absurd (show a<s.size by omega) n|skip
        all_goals
         subst l
         go_quiet (fail)
         go_wp2_with fail
         go_end0
         refine⟨rfl,?_,pC f.out.2.1 rfl rfl rfl rfl⟩;rw[i.out,m.out];exact f.out.1
       ·first|exact absurd (show a=k by omega) l|skip
        all_goals
         have O:((a:Int)==k)=false:=by simp;omega
         have P:(a==k)=false:=by simp;omega
         have Q:decide (a=k)=false:=by simp;omega
         have R:decide ((a:Int)=k)=false:=by simp;omega
         clear l
         go_quiet (fail)
         go_wp2_with fail
         go_end0
         refine⟨rfl,?_,pC f.out.2.1 rfl rfl rfl rfl⟩;rw[i.out,m.out];exact f.out.1
      ·have y:k<s.size:=Nat.lt_of_le_of_lt F n
       first|exact absurd y b|skip
       all_goals
        go_wp2_with fail
        go_quiet ((go_at_call 93;exact Calls.quiet_of_same (DP s[a] _ _ o)))
        go_wp2_with fail;by_cases l:a=k
        ·have m:Hid (dW s g=a+1):=by
           simp only[Hid,dW,i.out,t.out];rw[if_pos ⟨l,by omega⟩];omega
         subst l
         go_quiet (fail)
         go_wp2_with fail
         go_end0
         refine⟨rfl,?_,bN f.out.2.1 (bN (eh _ _ _) (lJ _ _ _ _))⟩;rw[i.out,m.out];exact Rd.set2 f.out.1 (a+1)
        ·have m:Hid (dW s g=a):=by
           simp only[Hid,dW,i.out,t.out];rw[if_neg (by omega)]
         have O:((a:Int)==k)=false:=by simp;omega
         have P:(a==k)=false:=by simp;omega
         have Q:decide (a=k)=false:=by simp;omega
         have R:decide ((a:Int)=k)=false:=by simp;omega
         clear l
         go_quiet (fail)
         go_wp2_with fail
         go_end0
         refine⟨rfl,?_,pC f.out.2.1 rfl rfl rfl rfl⟩;rw[i.out,m.out];exact f.out.1
abbrev e9:Type:=Nat×ByteArray
def BH(x:ByteArray):Bool:=x.toList==[40]
def xM(x:ByteArray):Bool:=x.toList==[41]
theorem KD{x:ByteArray}{c:UInt8}(a:(x.toList==[c])=true):x.data.toList=[c]/\x.size=1:=by
 rw[bW]at a;have b:x.data.toList=[c]:=by simpa using a
 refine⟨b,?_⟩;have:x.data.toList.length=x.size:=by simp
 rw[b]at this;simpa using this.symm
theorem uf{x:ByteArray}(a:xM x=true):eY x=false/\BH x=false:=by
 obtain⟨b,c⟩:=KD a;simp[eY,BH,ew,bW,b,ib,tM,fL,xR]
def Dx{a:Type}(f:a->List e9->List e9->Prop):List a->List e9->List e9->Prop
 | [],ts,r=>ts=r
 | x::l,ts,r=>∃m,f x ts m/\Dx f l m r
def Is:(n:Nat)->Tm n->List e9->List e9->Prop
 | 0,_,_,_=>False
 | n+1,x,ts,r=>∃t a,ts=t::a/\((BH t.2=false/\eY t.2=true/\x.1=kA t.2/\x.2.2=[]/\r=a)\/
    (BH t.2=true/\x.1=(4,0,⟨#[]⟩)/\∃c,Dx (Is n) x.2.2 a (c::r)/\xM c.2=true))
theorem Dx.snoc{b:Type}{f:b->List e9->List e9->Prop}{x:b}{r:List e9}:{l:List b}->{a m:List e9}->Dx f l a m->f x m r->Dx f (l++ [x]) a r
 | [],a,m,h,hx=>by
  have e:a=m:=h;subst e;exact⟨r,hx,rfl⟩
 | y::l,a,m,h,hx=>by
  obtain⟨q,c,d⟩:=h;exact⟨q,c,d.snoc hx⟩
theorem Is.head{n:Nat}{x:Tm n}{c r:List e9}(a:Is n x c r):∃t b,c=t::b/\xM t.2=false:=by
 cases n with
 | zero=>exact a.elim
 | succ n=>
  obtain⟨t,b,rfl,a⟩:=a;refine⟨t,b,rfl,?_⟩;cases hc:xM t.2
  ·rfl
  ·have:=uf hc;rcases a with a|a
   ·rw[this.1]at a;exact absurd a.2.1 (by simp)
   ·rw[this.2]at a;exact absurd a.1 (by simp)
theorem Dx.one{n m:Nat}(ih:∀(x:Tm n)(y:Tm m)(d r f:List e9),Is n x d r->Is m y d f->au n x m y=true/\r=f):(p:List (Tm n))->(q:List (Tm m))->(d:List e9)->(c i:e9)->(r f:List e9)->xM c.2=true->xM i.2=true->Dx (Is n) p d (c::r)->Dx (Is m) q d (i::f)->az (λa b=>au n a m b) p q=true/\r=f
 | [],[],d,c,i,r,f,hc,hc',h,h'=>by
  have j:d=c::r:=h;have g:d=i::f:=h';rw[j]at g;injection g with _ e;exact⟨rfl,e⟩
 | [],y::q,d,c,i,r,f,hc,hc',h,h'=>by
  have j:d=c::r:=h;obtain⟨A,k,_⟩:=h';obtain⟨t,C,g,l⟩:=k.head;rw[j]at g;injection g with e _;rw[<-e,hc]at l;exact absurd l (by simp)
 | x::p,[],d,c,i,r,f,hc,hc',h,h'=>by
  have j:d=i::f:=h';obtain⟨A,k,_⟩:=h;obtain⟨t,C,g,l⟩:=k.head;rw[j]at g;injection g with e _;rw[<-e,hc']at l;exact absurd l (by simp)
 | x::p,y::q,d,c,i,r,f,hc,hc',h,h'=>by
  obtain⟨o,k,v⟩:=h;obtain⟨B,w,z⟩:=h';obtain⟨j,g⟩:=ih x y d o B k w;subst g;obtain⟨s,u⟩:=Dx.one ih p q o c i r f hc hc' v z;exact⟨by simp only[az];rw[j,s];rfl,u⟩
theorem Is.one:(n:Nat)->(m:Nat)->(x:Tm n)->(y:Tm m)->(f r b:List e9)->Is n x f r->Is m y f b->au n x m y=true/\r=b
 | 0,_,_,_,_,_,_,a,_=>a.elim
 | _+1,0,_,_,_,_,_,_,a=>a.elim
 | n+1,m+1,x,y,f,r,b,a,g=>by
  obtain⟨t,z,rfl,a⟩:=a;obtain⟨t2,A,e,g⟩:=g;injection e with h i;subst h i;rcases a with⟨o,_,l,j,v⟩|⟨o,l,c,j,s⟩
  ·rcases g with⟨_,_,p,k,w⟩|⟨d,_⟩
   ·refine⟨?_,v.trans w.symm⟩;simp only[au,l,p,j,k,az];simp
   ·rw[o]at d;exact absurd d (by simp)
  ·rcases g with⟨d,_⟩|⟨_,p,q,k,u⟩
   ·rw[o]at d;exact absurd d (by simp)
   ·obtain⟨h,i⟩:=Dx.one (λx y f r b=>Is.one n m x y f r b) x.2.2 y.2.2 z c q r b s u j k;refine⟨?_,i⟩;simp only[au,l,p,h];simp
theorem isNodes:(n:Nat)->(x:Tm n)->(a r:List e9)->Is n x a r->(ar n x).length+r.length<=a.length
 | 0,_,_,_,b=>b.elim
 | n+1,x,a,r,b=>by
  have key:∀(l:List (Tm n))(a r:List e9),Dx (Is n) l a r->(l.flatMap λy=>ar n y).length+r.length<=a.length:=by
   intro l
   induction l with
   | nil=>intro a r b;have f:a=r:=b;subst f;simp
   | cons y l ih=>
    intro a r b;obtain⟨e,g,h⟩:=b;have:=isNodes n y a e g;have:=ih e r h;simp only[bv,aY];omega
  obtain⟨t,k,rfl,b⟩:=b;simp only[ar,aV];rcases b with⟨o,_,j,d,i⟩|⟨o,j,c,d,m⟩
  ·rw[d,i];simp;omega
  ·have:=key x.2.2 k (c::r) d;simp only[aV]at this;omega
def jx(L:Nat):List e9->Nat->Option Nat
 | [],0=>none
 | [],_+1=>some L
 | t::_,0=>some t.1
 | t::ts,d+1=>if BH t.2 then jx L ts (d+2)else if xM t.2 then jx L ts d else if eY t.2 then jx L ts (d+1)else some t.1
def BG(L:Nat):List e9->Nat->Option Nat
 | [],_=>some L
 | t::ts,d=>if BH t.2 then jx L ts (d+1)else if eY t.2 then jx L ts d else some t.1
def IX(L:Nat):List e9->Nat
 | []=>L
 | t::_=>t.1
theorem A2(L:Nat)(a:List e9)(d:Nat)(b:∀t c,a=t::c->xM t.2=false):jx L a (d+1)=BG L a (d+1):=by
 cases a with
 | nil=>rfl
 | cons t a=>simp only[jx,BG];rw[b t a rfl];simp
theorem CZ(L:Nat)(t:e9)(b:List e9)(d:Nat)(a:xM t.2=true):jx L (t::b) (d+1)=jx L b d:=by
 simp only[jx];rw[(uf a).2,a];simp
theorem wF{c d:Type}(f:c->d->Bool):(p:List c)->(q:List d)->az f p q=true->p.length=q.length
 | [],[],_=>rfl
 | [],_::_,h=>by simp[az]at h
 | _::_,[],h=>by simp[az]at h
 | a::p,b::q,h=>by
  simp only[az,ay]at h;simp[wF f p q h.2]
theorem KA{k b f g:Int}{s e:ByteArray}{l d c i:Nat}{a h:Option Addr}(j:k=b)(m:f=g)(n:s=e)(o:l=d):cm ((k,f,s),(a,l,c))=cm ((b,g,e),(h,d,i)):=by
 subst j m n o;rfl
theorem sk:(n m:Nat)->(x:Tm n)->(y:Tm m)->au n x m y=true->bQ n x=bQ m y/\eW n x=eW m y/\sz n x=sz m y
 | 0,_,_,_,c=>by simp[au]at c
 | _+1,0,_,_,c=>by simp[au]at c
 | n+1,m+1,x,y,c=>by
  have key:∀(p:List (Tm n))(q:List (Tm m)),az (λa b=>au n a m b) p q=true->
    (p.all λy=>bQ n y)=(q.all λy=>bQ m y)/\(∀a,p.foldl (λm y=>max m (eW n y)) a=q.foldl (λk y=>max k (eW m y)) a)/\(p.map λy=>1+sz n y).sum=(q.map λy=>1+sz m y).sum:=by
   intro p
   induction p with
   | nil=>
    intro q c;cases q with
    | nil=>simp
    | cons b q=>simp[az]at c
   | cons a p ih=>
    intro q c;cases q with
    | nil=>simp[az]at c
    | cons b q=>
     simp only[az,ay]at c;obtain⟨j,l,o⟩:=sk n m a b c.1;obtain⟨e,f,g⟩:=ih q c.2;refine⟨by simp only[iE,j,e],λv=>?_,by simp only[aH,bq,o,g]⟩;simp only[fU,l];exact f _
  simp only[au,ay,b9]at c;obtain⟨⟨⟨d,r⟩,h⟩,i⟩:=c;obtain⟨e,f,g⟩:=key _ _ i;have t:=wF _ _ _ i;have u:x.1.2.2=y.1.2.2:=by
   rw[bW,bW]at h;exact ByteArray.ext (lW.1 h)
  refine⟨?_,?_,?_⟩
  ·have s:cm (bu n x)=cm (bu m y):=KA d r u t;simp only[bQ,s,d,e]
  ·simp only[eW,d,f]
  ·simp only[sz,d,g]
theorem F7(n m:Nat)(x:Tm n)(y:Tm m)(a:au n x m y=true):bm n x=bm m y:=by
 obtain⟨b,c,d⟩:=sk n m x y a;rw[<-fS,<-fS];simp only[vv,b,c,d]
def qN:Nat->ByteArray->Nat->List e9
 | 0,_,_=> []
 | f+1,s,i=>if dq s i<s.size then (dq s i,s.extract (dq s i) (dW s i))::qN f s (dW s i)else []
def jr(s:ByteArray)(i:Nat):List e9:=qN (s.size-i) s i
theorem mK(s:ByteArray):(f g i:Nat)->s.size-i<=f->s.size-i<=g->qN f s i=qN g s i
 | 0,0,_,_,_=>rfl
 | 0,g+1,i,h,_=>by
  have:=lU s i;simp only[qN];rw[if_neg (by omega)]
 | f+1,0,i,_,h=>by
  have:=lU s i;simp only[qN];rw[if_neg (by omega)]
 | f+1,g+1,i,h,h'=>by
  simp only[qN];by_cases a:dq s i<s.size
  ·rw[if_pos a,if_pos a];have b:=qQ s i a;have c:=lU s i;rw[mK s f g (dW s i) (by omega) (by omega)]
  ·rw[if_neg a,if_neg a]
theorem wR(s:ByteArray)(i:Nat)(a:dq s i<s.size):jr s i=(dq s i,s.extract (dq s i) (dW s i))::jr s (dW s i):=by
 have b:=qQ s i a;have c:=lU s i;unfold jr;rw[mK s (s.size-i) (s.size-i+1) i (by omega) (by omega)];simp only[qN];rw[if_pos a,mK s (s.size-i) (s.size-dW s i) (dW s i) (by omega) (by omega)]
theorem uO(s:ByteArray)(i:Nat)(a:¬dq s i<s.size):jr s i=[]:=by
 unfold jr;rw[mK s (s.size-i) (s.size-i+1) i (by omega) (by omega)];simp only[qN];rw[if_neg a]
theorem kT(s:ByteArray):(f i:Nat)->s.size-i<=f->(jr s i).length<=s.size-i
 | 0,i,h=>by
  have:=lU s i;rw[uO s i (by omega)];simp
 | f+1,i,h=>by
  by_cases a:dq s i<s.size
  ·have b:=qQ s i a;have c:=lU s i;rw[wR s i a];have:=kT s f (dW s i) (by omega);simp only[aV];omega
  ·rw[uO s i a];simp
def At(s:ByteArray)(b e:Nat)(a:List e9):Prop:=
 b<=e/\e<=s.size/\((b=s.size/\a=[])\/(b<e/\a=(b,s.extract b e)::jr s e))
theorem At.next{s:ByteArray}{i:Nat}(b:i<=s.size):At s (dq s i) (dW s i) (jr s i):=by
 refine⟨Bv s i,Bw s i b,?_⟩;by_cases a:dq s i<s.size
 ·exact af ⟨qQ s i a,wR s i a⟩
 ·exact ae ⟨(GH s i b a).1,uO s i a⟩
theorem At.pos{s:ByteArray}{b e:Nat}{a:List e9}(c:At s b e a):IX s.size a=b:=by
 rcases c.2.2 with⟨d,rfl⟩|⟨_,rfl⟩
 ·exact d.symm
 ·rfl
theorem At.nil{s:ByteArray}{b e:Nat}(a:At s b e []):(s.extract b e).toList=[]:=by
 rcases a.2.2 with⟨d,_⟩|⟨_,c⟩
 ·rw[bW];apply bD;have:=a.2.1;simp;omega
 ·exact absurd c (by simp)
theorem At.cons{s:ByteArray}{b e:Nat}{t:e9}{d:List e9}(c:At s b e (t::d)):t=(b,s.extract b e)/\d=jr s e/\0<(s.extract b e).size:=by
 rcases c.2.2 with⟨_,a⟩|⟨h,a⟩
 ·exact absurd a (by simp)
 ·injection a with f g;refine⟨f,g,?_⟩;have:=c.2.1;simp;omega
-- Sign by sign:what a sign does to the words ahead.
theorem fo{w w1:World}{q:Option Nat}(a:w.grownBy w1 q)(o:Obj):w.grownBy (w1.alloc o) q:=
 ⟨a.os,a.tape,a.output,by have:=a.size;simp;omega,λk b c=>by
  exact(((ak w1.heap.size w1).alloc (ai _) o).block k (aJ b a.size)).trans (a.block k b c)⟩
theorem lI{w w1:World}{q:Option Nat}(a:w.grownBy w1 q){b:Nat}(e:w.heap.size<=b)(o:Nat)(v:Value):w.grownBy (w1.setCell ⟨b,o,none⟩ v) q:=
 ⟨a.os,a.tape,a.output,by simpa [World.setCell]using a.size,λk c d=>(eA w1 ⟨b,o,none⟩ v k (by simp;omega)).trans (a.block k c d)⟩
theorem Fw{w w1 w2:World}{q:Option Nat}(a:w.grownBy w1 q){g:Option Nat}(k:w1.grownBy w2 g)(f:∀b,g=some b->w.heap.size<=b):w.grownBy w2 q:=
 ⟨k.os.trans a.os,k.tape.trans a.tape,k.output.trans a.output,aw a.size k.size,λc d h=>(k.block c (aJ d a.size) (λe=>by have:=f c e.symm;omega)).trans (a.block c d h)⟩
theorem nv{w w1 w2:World}{q:Option Nat}(a:w.grownBy w1 q)(k:ag w1 w2):w.grownBy w2 q:=
 ⟨k.os.trans a.os,k.tape.trans a.tape,k.output.trans a.output,aw a.size k.size,λc b d=>(k.block c (aJ b a.size)).trans (a.block c b d)⟩
theorem Rd.block{r:Nat}{s:ByteArray}{b e:Nat}{w w':World}(a:Rd r s b e w)(k:w'.heap[r]?=w.heap[r]?):Rd r s b e w':=k.trans a
theorem Rd.alloc{r:Nat}{s:ByteArray}{b e:Nat}{w:World}(a:Rd r s b e w)(o:Obj):Rd r s b e (w.alloc o):=
 a.block (((ak w.heap.size w).alloc (ai _) o).block r a.lt)
theorem Rd.far{r:Nat}{s:ByteArray}{b e:Nat}{w:World}(a:Rd r s b e w){g:Nat}(c:r<g)(o:Nat)(v:Value):Rd r s b e (w.setCell ⟨g,o,none⟩ v):=
 a.block (eA w ⟨g,o,none⟩ v r (by simp;omega))
def ahead(s:ByteArray)(b e:Nat):List e9:=if b<s.size then (b,s.extract b e)::jr s e else []
def Ns(r:Nat)(s:ByteArray)(w:World):Nat:=(ahead s (intOf ((w.cell? ⟨r,1,none⟩).getD undef)).toNat (intOf ((w.cell? ⟨r,2,none⟩).getD undef)).toNat).length
theorem ID{r:Nat}{s:ByteArray}{b e:Nat}{w:World}{a:List e9}(f:Rd r s b e w)(k:At s b e a):Ns r s w=a.length:=by
 obtain⟨⟨h,c,d⟩,i,j⟩:=f.cells;simp only[Ns,c,d,Option.getD_some,intOf,Int.toNat_natCast,ahead];rcases k.2.2 with⟨g,rfl⟩|⟨g,rfl⟩
 ·rw[if_neg (by omega)]
 ·rw[if_pos (by have:=k.2.1;omega)]
def kX(n:Nat)(s:ByteArray)(r:Nat)(e:List e9)(w w':World)(v:Value)(ok:Bool):Prop:=
 w.grownBy w' (some r)/\∃b f c,Rd r s b f w'/\At s b f c/\
  (ok=true->(∃d:Tm n,dd n d=v/\Is n d e c/\In w'.heap.size w' n d/\bV (λg=>w.heap.size<=g) n d)/\∀a,BG s.size e a=jx s.size c a)/\
  (ok=false->∀a,BG s.size e a=some (IX s.size c))
def J0(n:Nat)(s:ByteArray)(r:Nat)(d:List e9)(w w':World)(e:Ending):Prop:=
 ∃(k b:Int)(t:ByteArray)(a:Option Addr)(l c:Nat)(ok:Bool),e=.returned (.tuple #[.agg #[.int .i64 k,.int .i64 b,.string t,.slice a l c],.bool ok])/\
  Hid (kX n s r d w w' (.agg #[.int .i64 k,.int .i64 b,.string t,.slice a l c]) ok)
def LC(n:Nat):Prop:=∀(r:Nat)(s:ByteArray)(b e:Nat)(a:List e9)(w:World),Rd r s b e w->At s b e a->s.size<=2048->a.length<=n->
 ah 62 #[.pointer (some ⟨r,0,none⟩)] w λc w'=>J0 (n+1) s r a w w' c
theorem om(r:Nat)(s:ByteArray)(b e:Nat)(x:ByteArray)(w:World)(c:Rd r s b e w)(d:b<=e)(f:e<=s.size)(g:s.extract b e=x):ah 63 #[.pointer (some ⟨r,0,none⟩)] w λa w'=>a=.returned (.string x)/\∃n,w'=w.drewN n:=by
 subst g;exact JK r s b e w c d f
def Bx(q:Nat)(v0 v1 v2 v3:Value)(w:World):Prop:=w.heap[q]?=some (.cells #[v0,v1,v2,v3] 30)
theorem Bx.cells{q:Nat}{v0 v1 v2 v3:Value}{w:World}(a:Bx q v0 v1 v2 v3 w):(w.cell? ⟨q,0,none⟩=some v0/\w.cell? ⟨q,1,none⟩=some v1/\w.cell? ⟨q,2,none⟩=some v2/\w.cell? ⟨q,3,none⟩=some v3)/\ (w.frozen? ⟨q,0,none⟩=false/\w.frozen? ⟨q,1,none⟩=false/\w.frozen? ⟨q,2,none⟩=false/\w.frozen? ⟨q,3,none⟩=false):=by
 unfold Bx at a;exact⟨⟨by simp[World.cell?,a],by simp[World.cell?,a],by simp[World.cell?,a],by simp[World.cell?,a]⟩,by simp[World.frozen?,a],by simp[World.frozen?,a],by simp[World.frozen?,a],by simp[World.frozen?,a]⟩
theorem Bx.block{q:Nat}{v0 v1 v2 v3:Value}{w w':World}(a:Bx q v0 v1 v2 v3 w)(k:w'.heap[q]?=w.heap[q]?):Bx q v0 v1 v2 v3 w':=k.trans a
theorem Bx.lt{q:Nat}{v0 v1 v2 v3:Value}{w:World}(a:Bx q v0 v1 v2 v3 w):q<w.heap.size:=(aA.1 a).1
theorem Bx.set3{q:Nat}{v0 v1 v2 v3:Value}{w:World}(a:Bx q v0 v1 v2 v3 w)(v:Value):Bx q v0 v1 v2 v (w.setCell ⟨q,3,none⟩ v):=by
 unfold Bx at*;simp[World.setCell,bC,a]
theorem Bx.new(w:World)(v0 v1 v2 v3:Value):Bx w.heap.size v0 v1 v2 v3 (w.alloc (.cells #[v0,v1,v2,v3] 30)):=ax w _
def GU(n:Nat)(r:Nat)(s:ByteArray)(c:List e9)(w:World)(b e:Nat)(v:Value)(wr:World)(l:List (Tm (n+1)))(a:List e9):Prop:=
 Rd r s b e wr/\At s b e a/\(w.alloc (.cells #[.int .i64 0,.int .i64 0,.string ⟨#[]⟩,.slice none 0 0] 30)).grownBy wr (some r)/\p7 (w.heap.size+2) (n+1) l v wr/\
  Bx w.heap.size (.int .i64 0) (.int .i64 0) (.string ⟨#[]⟩) (.slice none 0 0) wr/\Bx (w.heap.size+1) (.int .i64 4) (.int .i64 0) (.string ⟨#[]⟩) v wr/\
  Dx (Is (n+1)) l c a/\a.length<=c.length/\∀d,jx s.size c (d+1)=jx s.size a (d+1)
def J5(n:Nat)(r:Nat)(s:ByteArray)(c:List e9)(w:World)(b e:Nat)(v:Value)(wr:World):Prop:=
 ∃(l:List (Tm (n+1)))(a:List e9),GU n r s c w b e v wr l a
theorem fi(w:World)(o:Obj){q:Nat}(a:q<w.heap.size):(w.alloc o).heap[q]?=w.heap[q]? :=(cV w o none).block q a (by simp)
theorem Gw{n r:Nat}{s:ByteArray}{b e:Nat}{i:e9}{a:List e9}{w w1:World}(h:Rd r s b e w)(c:At s b e (i::a))(k:Rd r s (dq s e) (dW s e) w1)(g:((w.alloc (.cells #[.int .i64 0,.int .i64 0,.string ⟨#[]⟩,.slice none 0 0] 30)).alloc (.cells #[.int .i64 4,.int .i64 0,.string ⟨#[]⟩,.slice none 0 0] 30)).grownBy w1 (some r)):J5 n r s a w (dq s e) (dW s e) (.slice none 0 0) w1:=by
 have j:=h.lt;have d:=(At.cons c).2.1;refine⟨[],a,k,by rw[d];exact At.next c.2.1,bN (cV _ _ _) g,⟨⟨rfl,ae ⟨rfl,rfl⟩⟩,by simp⟩,?_,?_,rfl,ai _,λ_=>rfl⟩
 ·exact((Bx.new w _ _ _ _).block (fi _ _ (by simp))).block (g.block _ (by simp;omega) (by simp;omega))
 ·have:=Bx.new (w.alloc (.cells #[.int .i64 0,.int .i64 0,.string ⟨#[]⟩,.slice none 0 0] 30)) (.int .i64 4) (.int .i64 0) (.string ⟨#[]⟩) (.slice none 0 0);have f:(w.alloc (.cells #[.int .i64 0,.int .i64 0,.string ⟨#[]⟩,.slice none 0 0] 30)).heap.size=w.heap.size+1:=by simp
  rw[f]at this;exact this.block (g.block _ (by simp) (by simp;omega))
theorem p7.kept{base n:Nat}{l:List (Tm n)}{v:Value}{w w':World}(a:p7 base n l v w){r:Nat}(g:w.grownBy w' (some r))(k:r<base):p7 base n l v w':=by
 refine⟨a.1.kept g (af λf=>by have:=a.1.lt r f;omega),λe d=>⟨?_,(a.2 e d).2⟩⟩;obtain⟨c,h⟩:=a.2 e d;have i:=In.offB h c;exact(In.off (λb j=>g.block b j.2 (by simp;omega)) i c).mono g.size
theorem p7.snoc{base n:Nat}{l:List (Tm (n+1))}{v:Value}{w0 w w2:World}(h:p7 base (n+1) l v w0){r:Nat}(i:w0.grownBy w (some r))(A:r<base){x:Tm (n+1)}(C:In w.heap.size w (n+1) x)(y:bV (λq=>w0.heap.size<=q) (n+1) x)(D:base<=w0.heap.size){w1:World}(j:w.grownBy w1 none){g c:Nat}(z:w2.ownsRow base 30 4 (.slice (some ⟨g,0,none⟩) (l.length+1) c) (l.length+1) (ch (l.map (fQ (n+1)))++ur (fQ (n+1) x)))(k:w1.grownBy w2 v.ownBlock)(u:v.ownBlock=some g\/g=w1.heap.size):p7 base (n+1) (l++ [x]) (.slice (some ⟨g,0,none⟩) (l.length+1) c) w2:=by
 have p:=h.kept i A;have E:=i.size;have F:=j.size;have G:=k.size;have B:∀b,v.ownBlock=some b->b<w0.heap.size:=λb d=>(h.1.lt b d).2;refine⟨by simpa [ch]using z,λa f=>?_⟩
 have key:∀a:Tm (n+1),In w.heap.size w (n+1) a->bV (λb=>base<=b/\v.ownBlock≠some b) (n+1) a->
   In w2.heap.size w2 (n+1) a/\bV (λb=>base<=b/\(Value.slice (some ⟨g,0,none⟩) (l.length+1) c).ownBlock≠some b) (n+1) a:=by
  intro a m t;have o:=In.offB t m;refine⟨(In.off (λb e=>(k.block b (by omega) (λd=>e.1.2 d.symm)).trans (j.block b e.2 (by simp))) o m).mono (by omega),o.mono λb e=>⟨e.1.1,?_⟩⟩;intro d;have s:g=b:=by simpa [Value.ownBlock]using d
  rcases u with h|h
  ·exact e.1.2 (by rw[h,s])
  ·omega
 rcases cU.1 f with f|f
 ·exact key a (p.2 a f).1 (p.2 a f).2
 ·have d:a=x:=by simpa using f
  subst d;exact key a C (y.mono λb e=>⟨by omega,λd=>by have:=B b d;omega⟩)
theorem Gt{n r:Nat}{s:ByteArray}{p:e9}{q:List e9}{w wr w2:World}{b e:Nat}{a:Option Addr}{L c m:Nat}(O:r<w.heap.size)(y:BH p.2=true)(B:J5 n r s q w b e (.slice a L c) wr)(j:xM (s.extract b e)=true)(k:Rd r s (dq s e) (dW s e) w2)(g:(wr.drewN m).grownBy w2 (some r)):kX (n+2) s r (p::q) (w.alloc (.cells #[.int .i64 0,.int .i64 0,.string ⟨#[]⟩,.slice none 0 0] 30)) w2 (.agg #[.int .i64 4,.int .i64 0,.string ⟨#[]⟩,.slice a L c]) true/\ Bx w.heap.size (.int .i64 0) (.int .i64 0) (.string ⟨#[]⟩) (.slice none 0 0) w2/\Bx (w.heap.size+1) (.int .i64 4) (.int .i64 0) (.string ⟨#[]⟩) (.slice a L c) w2:=by
 obtain⟨l,o,K,h,u,C,v,x,D,M,E⟩:=B;have Q:=u.size;have H:=x.lt;have i:wr.grownBy w2 (some r):=bN (eh wr m _) g;obtain⟨I,J,ev,G,F⟩:=(C.kept i (by omega)).tup;injection ev with d f A;subst d f A;refine⟨⟨bN u i,dq s e,dW s e,jr s e,k,At.next h.2.1,λ_=>⟨⟨_,rfl,?_,F,G.mono λP N=>by simp;omega⟩,?_⟩,by simp⟩,v.block (i.block _ v.lt (by simp;omega)),x.block (i.block _ H (by simp;omega))⟩
 ·cases o with
  | nil=>simp[xM,h.nil]at j
  | cons t o=>
   obtain⟨d,f,_⟩:=h.cons;subst d f;exact⟨p,q,rfl,af ⟨y,rfl,_,D,j⟩⟩
 ·intro z;cases o with
  | nil=>simp[xM,h.nil]at j
  | cons t o=>
   obtain⟨d,f,_⟩:=h.cons;subst d f;simp only[BG,y,cH];rw[E z,CZ _ _ _ _ j]
theorem kX.box{n r:Nat}{s:ByteArray}{d:List e9}{w w1:World}{o:Obj}{v:Value}{ok:Bool}(a:r<w.heap.size)(g:kX n s r d (w.alloc o) w1 v ok)(v0 v1 v2 v3:Value):kX n s r d w ((((w1.setCell ⟨w.heap.size,0,none⟩ v0).setCell ⟨w.heap.size,1,none⟩ v1).setCell ⟨w.heap.size,2,none⟩ v2).setCell ⟨w.heap.size,3,none⟩ v3) v ok:=by
 obtain⟨h,b,f,q,i,j,k,l⟩:=g;refine⟨lI (lI (lI (lI (bN (cV _ _ _) h) (ai _) _ _) (ai _) _ _) (ai _) _ _) (ai _) _ _,b,f,q,(((i.far a _ _).far a _ _).far a _ _).far a _ _,j,λm=>?_,l⟩;obtain⟨⟨t,u,x,y,e⟩,z⟩:=k m;have c:∀b,(w.alloc o).heap.size<=b->((((w1.setCell ⟨w.heap.size,0,none⟩ v0).setCell ⟨w.heap.size,1,none⟩ v1).setCell ⟨w.heap.size,2,none⟩ v2).setCell ⟨w.heap.size,3,none⟩ v3).heap[b]?=w1.heap[b]? :=λb c=>by
  have A:w.heap.size<b:=by simp at c;omega
  rw[eA _ _ _ _ (by simp;omega),eA _ _ _ _ (by simp;omega),eA _ _ _ _ (by simp;omega),eA _ _ _ _ (by simp;omega)]
 refine⟨⟨t,u,x,(In.off c e y).mono (by simp[World.setCell]),e.mono λB p=>by simp at p;omega⟩,z⟩
theorem kX.alloc{n r:Nat}{s:ByteArray}{a:List e9}{w w1:World}{v:Value}{ok:Bool}(f:kX n s r a w w1 v ok)(o:Obj):kX n s r a w (w1.alloc o) v ok:=by
 obtain⟨g,b,e,p,h,i,j,k⟩:=f;refine⟨fo g o,b,e,p,h.alloc o,i,λm=>?_,k⟩;obtain⟨⟨q,t,u,c,d⟩,x⟩:=j m;exact⟨⟨q,t,u,(In.off (λb l=>fi w1 o l.2) (In.offB d c) c).mono (by simp),d⟩,x⟩
theorem At.no{s:ByteArray}{b e:Nat}{a:List e9}(d:At s b e a)(f:xM (s.extract b e)=false):∀t c,a=t::c->xM t.2=false:=by
 intro t c e;subst e;rw[d.cons.1];exact f
theorem wU{n r:Nat}{s:ByteArray}{h f:List e9}{w wr w1:World}{b e m:Nat}{v:Value}{l:List (Tm (n+1))}(u:r<w.heap.size)(a:GU n r s h w b e v wr l f)(g:(wr.drewN m).grownBy w1 (some r)):Bx w.heap.size (.int .i64 0) (.int .i64 0) (.string ⟨#[]⟩) (.slice none 0 0) w1/\Bx (w.heap.size+1) (.int .i64 4) (.int .i64 0) (.string ⟨#[]⟩) v w1/\w.heap.size+1<w1.heap.size:=by
 obtain⟨i,j,k,o,c,d,p,q,t⟩:=a;have a:=d.block (g.block _ d.lt (by simp;omega));exact⟨c.block (g.block _ c.lt (by simp;omega)),a,a.lt⟩
theorem Gu{n r:Nat}{s:ByteArray}{c:e9}{f d:List e9}{w wr w1:World}{b e m:Nat}{v B:Value}{l:List (Tm (n+1))}(t:BH c.2=true)(j:GU n r s f w b e v wr l d)(q:xM (s.extract b e)=false)(R:kX (n+1) s r d (wr.drewN m) w1 B false)(A:Value):kX (n+2) s r (c::f) (w.alloc (.cells #[.int .i64 0,.int .i64 0,.string ⟨#[]⟩,.slice none 0 0] 30)) w1 A false:=by
 obtain⟨C,k,o,D,E,F,G,H,p⟩:=j;obtain⟨i,g,h,z,u,x,_,y⟩:=R;refine⟨bN o (bN (eh wr m _) i),g,h,z,u,x,by simp,λ_ a=>?_⟩;simp only[BG,t,cH];rw[p a,A2 _ _ _ (k.no q)];exact y rfl (a+1)
theorem D6{n:Nat}:(l:List (Tm n))->(a r:List e9)->Dx (Is n) l a r->l.length+r.length<=a.length
 | [],a,r,h=>by have e:a=r:=h;subst e;simp
 | x::l,a,r,h=>by
  obtain⟨m,b,c⟩:=h;have d:=D6 l m r c;have f:=isNodes n x a m b;have g:0<(ar n x).length:=by
   cases n with
   | zero=>exact b.elim
   | succ n=>simp[ar]
  simp only[aV];omega
theorem Ln{n r:Nat}{s:ByteArray}{h o:List e9}{w wr w1:World}{b e m:Nat}{a:Option Addr}{L c:Nat}{l:List (Tm (n+1))}(F:r<w.heap.size)(q:GU n r s h w b e (.slice a L c) wr l o)(g:(wr.drewN m).grownBy w1 (some r))(E:h.length<=2048):l.length=L/\L<=2048/\∀d f,((w1.alloc d).alloc f).ownsRow (w.heap.size+2) 30 4 (.slice a L c) L (ch (l.map (fQ (n+1)))):=by
 obtain⟨x,y,z,k,A,B,t,C,D⟩:=q;have p:wr.grownBy w1 (some r):=bN (eh wr m _) g;obtain⟨u,v,ev,_⟩:=k.tup;injection ev with _ i _;have:=D6 l h o t;have j:=(k.kept p (by omega)).1;rw[<-i]at j;exact⟨i.symm,by omega,λd f=>(j.alloc d).alloc f⟩
theorem Gv{n r:Nat}{s:ByteArray}{S y:List e9}{w wr w1 f:World}{b e m:Nat}{a:Option Addr}{L c:Nat}{l:List (Tm (n+1))}(ai:r<w.heap.size)(D:GU n r s S w b e (.slice a L c) wr l y)(ae:xM (s.extract b e)=false){k z:Int}{t:ByteArray}{q:Option Addr}{x u:Nat}(R:kX (n+1) s r y (wr.drewN m) w1 (.agg #[.int .i64 k,.int .i64 z,.string t,.slice q x u]) true){O P:Obj}{g h:Nat}(ad:l.length=L)(I:f.ownsRow (w.heap.size+2) 30 4 (.slice (some ⟨g,0,none⟩) (L+1) h) (L+1) (ch (l.map (fQ (n+1)))++ [.int .i64 k,.int .i64 z,.string t,.slice q x u]))(v:((w1.alloc O).alloc P).grownBy f (Value.slice a L c).ownBlock)(af:(Value.slice a L c).ownBlock=some g\/g=w1.heap.size+2):(Bx (w.heap.size+1) (.int .i64 4) (.int .i64 0) (.string ⟨#[]⟩) (.slice a L c) f/\ ∃j o,J5 n r s S w j o (.slice (some ⟨g,0,none⟩) (L+1) h) (f.setCell ⟨w.heap.size+1,3,none⟩ (.slice (some ⟨g,0,none⟩) (L+1) h))/\Ns r s (f.setCell ⟨w.heap.size+1,3,none⟩ (.slice (some ⟨g,0,none⟩) (L+1) h))<Ns r s wr):=by
 subst ad;obtain⟨an,ao,aB⟩:=wU ai D R.1;obtain⟨X,E,Y,F,ax,Z,aa,ay,ab⟩:=D;obtain⟨W,j,o,T,ak,M,al,_⟩:=R;have C:wr.grownBy w1 (some r):=bN (eh wr m _) W;obtain⟨⟨i,p,U,ap,aq⟩,au⟩:=al rfl;have H:∀b,(Value.slice a l.length c).ownBlock=some b->w.heap.size+2<=b:=λb e=>(F.1.lt b e).1;have ag:ur (fQ (n+1) i)=[.int .i64 k,.int .i64 z,.string t,.slice q x u]:=by
  have V:dd (n+1) i=.agg (ur (fQ (n+1) i)).toArray:=rfl;rw[V]at p;injection p with p;exact lW.2 p
 rw[<-ag]at I;have K:=F.snoc C (by omega) ap aq (by have:=Z.lt;simp;omega) (w1:=(w1.alloc O).alloc P) (fo (fo (eh w1 0 _) _) _) I v (by simpa using af);have ah:∀d,d<w.heap.size+2->some d≠(Value.slice a l.length c).ownBlock:=λd J e=>by have:=H d e.symm;omega
 have A:∀d,d<w.heap.size+2->f.heap[d]?=w1.heap[d]? :=λd J=>(v.block d (by simp;omega) (ah d J)).trans ((fi _ _ (by simp;omega)).trans (fi _ _ (by omega)));have Q:=ao.block (A (w.heap.size+1) (by omega));have am:Rd r s j o f:=ak.block (A r (by omega));have aw:f.heap.size=(f.setCell ⟨w.heap.size+1,3,none⟩ (.slice (some ⟨g,0,none⟩) (l.length+1) h)).heap.size:=by simp[World.setCell]
 have N:=am.far (g:=w.heap.size+1) (by omega) 3 (.slice (some ⟨g,0,none⟩) (l.length+1) h);have az:=isNodes (n+1) i y T U;have aA:0<(ar (n+1) i).length:=by simp[ar]
 refine⟨Q,j,o,⟨l++ [i],T,N,M,?_,?_,?_,Q.set3 _,aa.snoc U,by omega,λB=>?_⟩,?_⟩
 ·refine lI (Fw (fo (fo (bN Y C) _) _) v λb G=>?_) (by simp) _ _;have:=H b G;simp;omega
 ·refine⟨ownsRow_setCell_below (by simpa using K.1) (by simp) _,λav aj=>?_⟩;obtain⟨y1,y2⟩:=K.2 av aj;refine⟨?_,y2⟩;rw[<-aw];exact In.off (λb G=>eA _ _ _ _ (by simp;omega)) y2 y1
 ·exact(an.block (A w.heap.size (by omega))).block (eA _ _ _ _ (by simp))
 ·rw[ab B,A2 _ _ _ (E.no ae)];exact au (B+1)
 ·rw[ID N M,ID X E];omega
theorem E9(w:World)(o:Obj)(v0 v1 v2 v3:Value)(e:TypeId):∀(j:Nat)(a:Value),[v0,v1,v2,v3][j]?=some a->((w.alloc o).alloc (.cells #[v0,v1,v2,v3] e)).cell? ((⟨w.heap.size+1,0,none⟩:Addr).add j)=some a:=by
 intro j a b;rw[eM];rw[World.cell?_alloc_at _ _ _ _ (by simp)];simpa using b
theorem Ia(k d:Int)(t:ByteArray)(a:Option Addr)(l c:Nat):∀v∈[Value.int .i64 k,.int .i64 d,.string t,.slice a l c],v.oneCell'=true:=by
 intro v b;simp at b;rcases b with rfl|rfl|rfl|rfl<;>rfl
theorem Dp(n:Nat)(ih:LC n)(r:Nat)(s:ByteArray)(b e:Nat)(I:e9)(y:List e9)(w:World)(G:Rd r s b e w)(R:At s b e (I::y))(E:s.size<=2048)(V:y.length<=n)(W:BH I.2=true):ah 94 #[.pointer (some ⟨r,0,none⟩)] w λg w'=>J0 (n+2) s r (I::y) w w' g:=by
 have q:=G.lt;obtain⟨az,U,Y,Z,aa⟩:=bO fR;have B:=aj (⟨U,Y,Z,aa⟩:_/\_/\_/\_);clear U Y Z aa;have d:=aj (⟨G,R,E,V,W⟩:_/\_/\_/\_/\_);have ak:=aj ih;clear G R V W ih;go_enter Tryz.func94,Tryz.ntmps94;go_wp2_with (go_at_call 61;refine(qx r s b e _ ((d.out.1.alloc _).alloc _) d.out.2.1.2.1 E).mono ?_;rintro g af ⟨rfl,m⟩);go_loopw [] (λwr=>∃(b e:Nat)(D:Option Addr)(u c:Nat),Hid (J5 n r s y w b e (.slice D u c) wr)/\True) (λwr=>Ns r s wr)
 case atStart=>exact⟨_,_,_,_,_,Gw d.out.1 d.out.2.1 m.out.1 m.out.2,trivial⟩
 case round=>
  obtain⟨f,h,D,u,c,Q,_⟩:=hrel;clear m;obtain⟨l,J,i⟩:=Q.out;replace i:=aj i;obtain⟨j,ab⟩:∃j,s.extract f h=j:=⟨_,rfl⟩;have C:=aj ab;clear ab;have a:Hid (Rd r s f h wr/\At s f h J/\J.length<=n/\y.length<=2048):=by
   obtain⟨o,p,H,aJ,aK,aL,aM,av,aN⟩:=i.out;refine⟨o,p,aw av d.out.2.2.2.1,?_⟩;have:=kT s (s.size-e) e (ai _);rw[<-d.out.2.1.cons.2.1]at this;omega
  cases hc:(j.toList==[41])
  ·have aO:(j.toList=[41])=False:=by simpa using hc
   have aP:(j.toList !=[41])=true:=by simpa using hc
   have P:Hid (xM (s.extract f h)=false):=by rw[C.out];exact hc
   go_wp2_with (first
    | (go_at_call 63;refine(om r s f h j wr a.out.1 a.out.2.1.1 a.out.2.1.2.1 C.out).mono ?_;rintro g af ⟨rfl,x,rfl⟩)
    | (go_at_call 62;refine(ak.out r s f h J (wr.drewN x) (a.out.1.drew x) a.out.2.1 E a.out.2.2.1).mono ?_;rintro g F ⟨k,aF,t,al,aE,an,ok,rfl,A⟩;obtain⟨ad,ae,aQ⟩:=wU q i.out A.out.1;have ax:w.heap.size<F.heap.size:=(by omega);obtain⟨⟨K,L,M,N⟩,ao,aq,ar,au⟩:=ad.cells;obtain⟨⟨y0,y1,y2,aG⟩,aA,aB,aC,aD⟩:=ae.cells;clear ad ae;cases ok)
    | (at_builtin;have z:=aj (Ln q i.out A.out.1 a.out.2.2.2);refine wpList_append_lies _ rfl _ _ 28 rfl (w.heap.size+2) 30 az _ 4 56 Tryz.underlying28 B.out.1 B.out.2.1 B.out.2.2.1 B.out.2.2.2 rfl (by decide) _ u _ rfl (z.out.2.2 _ _) ⟨F.heap.size+1,0,none⟩ 1 1 [.int .i64 k,.int .i64 aF,.string t,.slice al aE an] rfl rfl (E9 _ _ _ _ _ _ _) (Ia _ _ _ _ _ _) (by decide) (by have:=z.out.2.1;unfold maxLen;omega) (by have:=z.out.2.1;omega) (by simp;omega) (F.heap.size+2) (by simp) ?_;intro aI aH aV X T S ay;have O:=aj (Gv q i.out P.out A.out z.out.1 X T S);obtain⟨⟨aW,aX,aY,aZ⟩,aR,aS,aT,aU⟩:=O.out.1.cells;clear X T S ay))
   ·exact ap (v:=.tuple #[.agg #[.int .i64 0,.int .i64 0,.string ⟨#[]⟩,.slice none 0 0],.bool false]) (by simp[results,Tryz.results94,go_sem,K,L,M,N,ax]) rfl ⟨0,0,⟨#[]⟩,none,0,0,false,rfl,(kX.box q (Gu d.out.2.2.2.2 i.out P.out A.out _) _ _ _ _).alloc _⟩
   ·obtain⟨am,g,o,p⟩:=O.out.2;go_roundw
    case rel=>exact⟨am,g,_,_,_,o,trivial⟩
    case measure=>exact p
  ·go_wp2_with (first
     | (go_at_call 63;refine(om r s f h j wr a.out.1 a.out.2.1.1 a.out.2.1.2.1 C.out).mono ?_;rintro g af ⟨rfl,x,rfl⟩)
     | (go_at_call 61;refine(qx r s f h (wr.drewN x) (a.out.1.drew x) a.out.2.1.2.1 E).mono ?_;rintro g F ⟨rfl,m⟩;obtain⟨o,p,H⟩:=Gt q d.out.2.2.2.2 Q.out (by rw[C.out];exact hc) m.out.1 m.out.2;obtain⟨⟨K,L,M,N⟩,ao,aq,ar,au⟩:=p.cells;obtain⟨⟨y0,y1,y2,aG⟩,aA,aB,aC,aD⟩:=H.cells;have ag:=aj (kX.box q o);clear o p H))
   exact ap (v:=.tuple #[.agg #[.int .i64 4,.int .i64 0,.string ⟨#[]⟩,.slice D u c],.bool true]) (by simp[results,Tryz.results94,go_sem,K,L,M,N]) rfl ⟨4,0,⟨#[]⟩,D,u,c,true,rfl,ag.out _ _ _ _⟩
end Go.Proofs.YtckamaoibonjcaaGreat
