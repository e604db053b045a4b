/- What is proved here: plain facts and contracts that the claimed theorem stands on. No condition but those that each names. -/
import Derived.Test.YtckamaoibonjcaaGreatG07
import Derived.BigQuiet
import Derived.Test.YtckamaoibonjcaaGreatG05
namespace Go.Proofs.YtckamaoibonjcaaGreat
open Go.RowKit
set_option maxHeartbeats 8000000
def tU(c:UInt8):Bool:=decide (48<=(c.toNat:Int)) && decide ((c.toNat:Int)<=57)
def ik(l:List UInt8):Bool:=l.all tU
def kN(l:List UInt8):Int:=l.foldl (λn c=>10*n+((c.toNat:Int)-48)) 0
def ex(s:ByteArray)(m:Int):Bool:=decide (1<=(s.size:Int)) && decide ((s.size:Int)<=m) && !(s.data.toList[0]?==some 48 && decide (1<(s.size:Int))) && ik s.data.toList
theorem tV(s:ByteArray)(k:Nat)(a:k<s.size):ik (s.data.toList.take (k+1))=(ik (s.data.toList.take k) && tU s[k]):=by
 rw[rT s k a];simp[ik]
theorem FN(s:ByteArray)(k:Nat)(a:k<s.size):kN (s.data.toList.take (k+1))=10*kN (s.data.toList.take k)+((s[k].toNat:Int)-48):=by
 rw[rT s k a];simp[kN]
theorem CJ(l:List UInt8):ik l=true->0<=kN l/\kN l<10 ^ l.length:=by
 suffices g:∀(l:List UInt8)(a:Int)(b:Nat),ik l=true->0<=a->a<10 ^ b->0<=l.foldl (λn c=>10*n+((c.toNat:Int)-48)) a/\l.foldl (λn c=>10*n+((c.toNat:Int)-48)) a<10 ^ (b+l.length) by
  intro d;have:=g l 0 0 d (by omega) (by simp);simpa [kN]using this
 intro l
 induction l with
 | nil=>intro a b _ e f;exact⟨e,f⟩
 | cons c l ih=>
  intro a b d e f;simp only[ik,iK,ax,tU,bQ]at d;have:=ih (10*a+((c.toNat:Int)-48)) (b+1) (by simp only[ik];exact d.2) (by omega) (by rw[Int.pow_succ];omega);simp only[fD,aV];rw[show b+(l.length+1)=b+1+l.length by omega];exact this
theorem CK(s:ByteArray)(k:Nat)(d:k<=14)(c:ik (s.data.toList.take k)=true):0<=kN (s.data.toList.take k)/\kN (s.data.toList.take k)<100000000000000:=by
 have a:=CJ _ c;refine⟨a.1,Int.lt_of_lt_of_le a.2 ?_⟩;have:(10:Int) ^ (s.data.toList.take k).length<=10 ^ 14:=by
  have b:(10:Nat) ^ (s.data.toList.take k).length<=10 ^ 14:=Nat.pow_le_pow_right (by omega) (by simp;omega)
  exact_mod_cast b
 simpa using this
theorem vU(s:ByteArray)(k:Nat)(a:k<s.size)(c:tU s[k]=false):ik s.data.toList=false:=by
 have b:ik s.data.toList=(ik (s.data.toList.take (k+1)) && ik (s.data.toList.drop (k+1))):=by
  conv=>lhs;rw[<-jl (k+1) s.data.toList]
  simp only[ik,j0]
 rw[b,tV s k a,c];simp
theorem qx(s:ByteArray)(a:0<s.size):s.data.toList[0]?=some s[0]:=by
 rw[aD (by simpa using a)];rfl
theorem MR(s:ByteArray)(e:0<s.size)(f:s[0]=48):(s.toList==[48])=decide (¬1<s.size):=by
 rw[bW];have b:=qx s e;rw[f]at b;have a:s.data.toList.length=s.size:=by simp
 cases d:s.data.toList with
 | nil=>rw[d]at a;simp at a;omega
 | cons c l=>
  rw[d]at b a;simp at b;subst b;cases l with
  | nil=>simp at a;simp;omega
  | cons g l=>simp at a;simp;omega
theorem Bi{s:ByteArray}(b:0<s.size):s.toList.isEmpty=false:=by
 rw[bW,List.isEmpty_eq_false_iff];intro a;have:s.data.toList.length=s.size:=by simp
 rw[a]at this;simp at this;omega
theorem Bg{s:ByteArray}(a:¬0<s.size):s.toList.isEmpty=true:=by
 rw[bW,List.isEmpty_iff];apply bD;have:s.data.toList.length=s.size:=by simp
 omega
theorem jH{c:UInt8}{k:Nat}{d:UInt8}(b:d.toNat=k)(a:¬c=d):¬((c.toNat:Int)=k):=λe=>a (UInt8.toNat.inj (by omega))
def Mr(s:ByteArray)(m:Int)(e:Ending):Prop:=
 ∃(a:Int)(b:Bool),e=.returned (.tuple #[.int .i64 a,.bool b])/\Hid (b=ex s m/\0<=a/\a<100000000000000/\(b=true->a=kN s.data.toList))
theorem nE(s:ByteArray)(m:Int)(w:World)(F:s.size<=9223372036854775807)(E:m<=13):ah 128 #[.string s,.int .i64 m] w λe w'=>Mr s m e/\w'=w:=by
 go_enter Tryz.func128,Tryz.ntmps128;by_cases g:0<s.size
 ·have n:=Bi g;have B:(s.toList=[])=False:=by simpa using n
  by_cases l:(s.size:Int)<=m
  ·have A:decide (m<(s.size:Int))=false:=by simp;omega
   have i:s[0]=48->(s.toList==[48])=decide (¬1<s.size):=MR s g;by_cases c:s[0]=48/\1<s.size
   ·obtain⟨c,a⟩:=c;have j:(s.toList==[48])=false:=by rw[i c];simp;omega
    have b:Hid (ex s m=false):=by simp[Hid,ex,qx s g,c];omega
    clear i;go_wp2_with fail
    all_goals go_ret2
    all_goals exact⟨⟨0,false,rfl,b.out.symm,by omega,by omega,by simp⟩,rfl⟩
   ·have b:Hid (ex s m=ik s.data.toList):=by
      simp only[Hid,ex];rw[qx s g];by_cases a:s[0]=48
      ·have:¬1<s.size:=λf=>c ⟨a,f⟩;simp[l];omega
      ·simp[l,a];omega
    have j:(s[0]=48/\(s.toList==[48])=true)\/¬((s[0].toNat:Int)=48):=by
     by_cases a:s[0]=48
     ·have C:¬1<s.size:=λf=>c ⟨a,f⟩;exact ae ⟨a,by rw[i a];simp;omega⟩
     ·exact af (jH (k:=48) rfl a)
    clear i c;rcases j with⟨a,j⟩|j
    all_goals
     go_wp2_with fail
     go_loop [6,7] (λt p=>∃k:Nat,∃h:Int,k<=s.size/\p=.int .i64 k/\t=.int .i64 h/\Hid (h=kN (s.data.toList.take k)/\ik (s.data.toList.take k)=true)) (λ_ p=>s.size-(intOf p).toNat)
     case atStart=>exact⟨0,0,aB _,rfl,rfl,by simp[Hid,ik,kN]⟩
     case round=>
      obtain⟨k,h,D,rfl,rfl,d⟩:=hrel;have u:=CK s k (by omega) d.out.2;rw[<-d.out.1]at u;obtain⟨G,H⟩:=u;by_cases o:k<s.size
      ·have y:=aj (tV s k o);have z:=aj (FN s k o);have q:Hid (tU s[k]=false->false=ex s m):=λf=>by rw[b.out,vU s k o f]
       by_cases d1:48<=(s[k].toNat:Int)
       ·by_cases r:(s[k].toNat:Int)<=57
        ·go_wp2_with fail
         go_round
         case rel=>exact⟨k+1,10*h+((s[k].toNat:Int)-48),by omega,by go_num,by go_num,by rw[z.out,d.out.1],by rw[y.out,d.out.2];simp[tU,d1,r]⟩
         case measure=>simp[intOf];omega
        ·go_wp2_with fail
         go_ret2
         exact⟨⟨0,false,rfl,q.out (by simp[tU,r]),by omega,by omega,by simp⟩,rfl⟩
       ·go_wp2_with fail
        go_ret2
        exact⟨⟨0,false,rfl,q.out (by simp[tU];omega),by omega,by omega,by simp⟩,rfl⟩
      ·go_wp2_with fail
       go_ret2
       have v:s.data.toList.take k=s.data.toList:=bw (by simp;omega);refine⟨⟨h,true,rfl,?_,by omega,by omega,λ_=>?_⟩,rfl⟩
       ·rw[b.out,<-v,d.out.2]
       ·rw[d.out.1,v]
  ·have A:m<(s.size:Int):=by omega
   have b:Hid (ex s m=false):=by simp[Hid,ex,l]
   go_wp2_with fail
   all_goals go_ret2
   all_goals exact⟨⟨0,false,rfl,b.out.symm,by omega,by omega,by simp⟩,rfl⟩
 ·have n:=Bg g;have B:(s.toList=[])=True:=by simpa using n
  have x:s.size=0:=by omega
  have b:Hid (ex s m=false):=by simp[Hid,ex,x]
  clear x;go_wp2_with fail
  all_goals go_ret2
  all_goals exact⟨⟨0,false,rfl,b.out.symm,by omega,by omega,by simp⟩,rfl⟩
def gW(s:ByteArray):ByteArray:=s.extract 1 s.size
def fe(s:ByteArray):Bool:=
 if s.data.toList[0]?=some 35 then ex (gW s) 2
 else if s.data.toList[0]?=some 36 then ex (gW s) 2
 else if s.data.toList[0]?=some 45 then ex (gW s) 13 && !(kN (gW s).data.toList==0)
 else if s.toList==[95]then true
 else if ex s 13 then true
 else decide (0<s.size) && fR s.data.toList
def kG(s:ByteArray):Int×Int×ByteArray:=
 if s.data.toList[0]?=some 35 then (3,kN (gW s).data.toList,⟨#[]⟩)
 else if s.data.toList[0]?=some 36 then (5,kN (gW s).data.toList,⟨#[]⟩)
 else if s.data.toList[0]?=some 45 then (1,-kN (gW s).data.toList,⟨#[]⟩)
 else if s.toList==[95]then (6,0,⟨#[]⟩)
 else if ex s 13 then (1,kN s.data.toList,⟨#[]⟩)
 else (2,0,s)
def Kh(s:ByteArray)(e:Ending):Prop:=
 ∃(k a:Int)(t:ByteArray)(b:Bool),e=.returned (.tuple #[.agg #[.int .i64 k,.int .i64 a,.string t,.slice none 0 0],.bool b])/\Hid (b=fe s/\(b=true->(k,a,t)=kG s)/\t.size<=s.size/\dj k/\dj a)
theorem Dq(s:ByteArray):(gW s).size<=s.size:=by simp[gW]
def Mp(k:Int)(s:ByteArray)(e:Ending):Prop:=
 ∃(a:Int)(b:Bool),e=.returned (.tuple #[.agg #[.int .i64 k,.int .i64 a,.string ⟨#[]⟩,.slice none 0 0],.bool b])/\Hid (b=ex s 2/\0<=a/\a<100000000000000/\(b=true->a=kN s.data.toList))
theorem qF(k:Int)(s:ByteArray)(w:World)(c:s.size<=9223372036854775807):ah 127 #[.int .i64 k,.string s] w λe w'=>Mp k s e/\ag w w':=by
 go_enter Tryz.func127,Tryz.ntmps127;go_wp2_with (go_at_call 128;refine(nE _ _ _ c (by omega)).mono ?_;rintro e w' ⟨⟨v,b,rfl,a⟩,rfl⟩);exact aq (v:=.tuple #[.agg #[.int .i64 k,.int .i64 v,.string ⟨#[]⟩,.slice none 0 0],.bool b]) (by simp[results,Tryz.results127,go_sem]) rfl ⟨⟨v,b,rfl,a⟩,by go_grown⟩
theorem EY(s:ByteArray)(w:World)(b:s.size<=2048):ah 41 #[.string s] w λe w'=>e=.returned (.string s)/\ag w w':=by
 go_enter Tryz.func41,Tryz.ntmps41;go_wp2_with (go_at_call 67;refine(Tryz.stringslite_Clone s w (by omega)).mono ?_;rintro e w' ⟨rfl,a⟩)
 go_ret
 exact⟨rfl,a⟩
theorem Fb(s:ByteArray)(a:0<s.size)(b:tU s[0]=false)(m:Int):ex s m=false:=by simp[ex,vU s 0 a b]
theorem FG(s:ByteArray)(a:0<s.size)(c:yg s[0]=false):fR s.data.toList=false:=by
 have b:fR s.data.toList=(fR (s.data.toList.take 1) && fR (s.data.toList.drop 1)):=by
  conv=>lhs;rw[<-jl 1 s.data.toList]
  simp only[fR,j0]
 rw[b,uu s 0 a,c];simp
theorem My(s:ByteArray)(d:0<s.size)(b:¬s[0]=95):(s.toList==[95])=false:=by
 rw[bW];have a:=qx s d;cases hl:s.data.toList with
 | nil=>rfl
 | cons c l=>
  rw[hl]at a;simp at a;rw[<-a]at b;simp[b]
def oR(k a:Int)(t:ByteArray):Value:=.agg #[.int .i64 k,.int .i64 a,.string t,.slice none 0 0]
theorem dh{a:Int}(b: -100000000000000<=a)(c:a<=100000000000000):dj a:=⟨by omega,by omega⟩
theorem xA{w w':World}{v0 v1 v2 v3:Value}{t:TypeId}(c:Below (w.alloc (.cells #[v0,v1,v2,v3] t)).heap.size (w.alloc (.cells #[v0,v1,v2,v3] t)) w'):(w'.cell? ⟨w.heap.size,0,none⟩=some v0/\w'.cell? ⟨w.heap.size,1,none⟩=some v1/\w'.cell? ⟨w.heap.size,2,none⟩=some v2/\w'.cell? ⟨w.heap.size,3,none⟩=some v3)/\ (w'.frozen? ⟨w.heap.size,0,none⟩=false/\w'.frozen? ⟨w.heap.size,1,none⟩=false/\w'.frozen? ⟨w.heap.size,2,none⟩=false/\w'.frozen? ⟨w.heap.size,3,none⟩=false):=by
 have a:=λo=>c.cell (p:=⟨w.heap.size,o,none⟩) (by simp);have b:=λo=>c.frozen (p:=⟨w.heap.size,o,none⟩) (by simp);exact⟨⟨(a 0).trans (by simp[go_sem]),(a 1).trans (by simp[go_sem]),(a 2).trans (by simp[go_sem]),(a 3).trans (by simp[go_sem])⟩,(b 0).trans (by simp[go_sem]),(b 1).trans (by simp[go_sem]),(b 2).trans (by simp[go_sem]),(b 3).trans (by simp[go_sem])⟩
theorem Cp{w w':World}{o:Obj}(e:Below (w.alloc o).heap.size (w.alloc o) w')(a b c d:Value):ag w ((((w'.setCell ⟨w.heap.size,0,none⟩ a).setCell ⟨w.heap.size,1,none⟩ b).setCell ⟨w.heap.size,2,none⟩ c).setCell ⟨w.heap.size,3,none⟩ d):=by
 have f:ag w w':=((ak _ _).alloc (ai _) _).trans (e.mono (by simp))
 go_grown
theorem Gb(s:ByteArray)(w:World)(C:s.size<=2048):ah 95 #[.string s] w λe w'=>Kh s e/\ag w w':=by
 have K:=Dq s;by_cases g:0<s.size
 ·have p:=Bi g;have A:(s.toList=[])=False:=by simpa using p
  have i:=aj (qx s g);have J:(1:Int)<=s.size:=by omega
  by_cases j:s[0]=95
  ·have c:Hid (fe s=(s.toList==[95])/\((s.toList==[95])=true->kG s=(6,0,⟨#[]⟩))):=by
     simp only[Hid,fe,kG,i.out,j,Fb s g (by simp[tU,j]) 13,FG s g (by simp[yg,j])];cases h:(s.toList==[95])<;>simp
   go_enter Tryz.func95,Tryz.ntmps95;go_wp2_with fail;exact aq (v:=.tuple #[oR 6 0 ⟨#[]⟩,.bool (s.toList==[95])]) (by simp[results,Tryz.results95,go_sem,oR]) rfl ⟨⟨6,0,⟨#[]⟩,_,rfl,c.out.1.symm,λh=>(c.out.2 h).symm,aB _,dh (by omega) (by omega),dh (by omega) (by omega)⟩,by go_grown⟩
  ·have d1:=jH (k:=95) (d:=95) rfl j;by_cases q:s[0]=35
   ·have c:Hid (fe s=ex (gW s) 2/\kG s=(3,kN (gW s).data.toList,⟨#[]⟩)):=by
      simp[Hid,fe,kG,i.out,q]
    go_enter Tryz.func95,Tryz.ntmps95;go_wp2_with (go_at_call 127;refine(qF 3 (gW s) _ (by omega)).mono ?_;rintro e w' ⟨⟨v,b,rfl,a⟩,f⟩;obtain⟨⟨l,m,n,o⟩,u,x,y,z⟩:=xA f;have HB:=aj (Cp f);clear f);exact aq (v:=.tuple #[oR 3 v ⟨#[]⟩,.bool b]) (by simp[results,Tryz.results95,go_sem,oR,l,m,n,o]) rfl ⟨⟨3,v,⟨#[]⟩,_,rfl,by rw[c.out.1,a.out.1],λh=>by rw[c.out.2,a.out.2.2.2 h],aB _,dh (by omega) (by omega),dh (by have:=a.out.2.1;omega) (by have:=a.out.2.2.1;omega)⟩,HB.out _ _ _ _⟩
   ·have G:=jH (k:=35) (d:=35) rfl q;by_cases r:s[0]=36
    ·have c:Hid (fe s=ex (gW s) 2/\kG s=(5,kN (gW s).data.toList,⟨#[]⟩)):=by
       simp[Hid,fe,kG,i.out,r]
     go_enter Tryz.func95,Tryz.ntmps95;go_wp2_with (go_at_call 127;refine(qF 5 (gW s) _ (by omega)).mono ?_;rintro e w' ⟨⟨v,b,rfl,a⟩,f⟩;obtain⟨⟨l,m,n,o⟩,u,x,y,z⟩:=xA f;have HB:=aj (Cp f);clear f);exact aq (v:=.tuple #[oR 5 v ⟨#[]⟩,.bool b]) (by simp[results,Tryz.results95,go_sem,oR,l,m,n,o]) rfl ⟨⟨5,v,⟨#[]⟩,_,rfl,by rw[c.out.1,a.out.1],λh=>by rw[c.out.2,a.out.2.2.2 h],aB _,dh (by omega) (by omega),dh (by have:=a.out.2.1;omega) (by have:=a.out.2.2.1;omega)⟩,HB.out _ _ _ _⟩
    ·have H:=jH (k:=36) (d:=36) rfl r;by_cases t:s[0]=45
     ·have c:Hid (fe s=(ex (gW s) 13 && !(kN (gW s).data.toList==0))/\kG s=(1,-kN (gW s).data.toList,⟨#[]⟩)):=by
        simp[Hid,fe,kG,i.out,t]
      go_enter Tryz.func95,Tryz.ntmps95;go_wp2_with (go_at_call 128;refine(nE (gW s) 13 _ (by omega) (by omega)).mono ?_;rintro e w' ⟨⟨v,b,rfl,a⟩,rfl⟩;obtain⟨E,F⟩:=(⟨a.out.2.1,a.out.2.2.1⟩:0<=v/\v<100000000000000);cases b)
      ·exact aq (v:=.tuple #[oR 1 (-v) ⟨#[]⟩,.bool false]) (by simp[results,Tryz.results95,go_sem,oR]) rfl ⟨⟨1,-v,⟨#[]⟩,_,rfl,by rw[c.out.1,<-a.out.1];rfl,by simp,aB _,dh (by omega) (by omega),dh (by omega) (by omega)⟩,by go_grown⟩
      ·exact aq (v:=.tuple #[oR 1 (-v) ⟨#[]⟩,.bool (v !=0)]) (by simp[results,Tryz.results95,go_sem,oR]) rfl ⟨⟨1,-v,⟨#[]⟩,_,rfl,by rw[c.out.1,<-a.out.1,<-a.out.2.2.2 (by trivial)];simp[bne],λ_=>by rw[c.out.2,a.out.2.2.2 (by trivial)],aB _,dh (by omega) (by omega),dh (by omega) (by omega)⟩,by go_grown⟩
     ·have I:=jH (k:=45) (d:=45) rfl t;have c:Hid (fe s=(ex s 13 || fR s.data.toList)/\(kG s=if ex s 13=true then (1,kN s.data.toList,⟨#[]⟩)else (2,0,s))):=by
       simp only[Hid,fe,kG,i.out,My s g j];simp[q,r,t];cases ex s 13<;>simp[g]
      go_enter Tryz.func95,Tryz.ntmps95
      go_wp2_with (first
       | (go_at_call 128;refine(nE s 13 _ (by omega) (by omega)).mono ?_;rintro e w' ⟨⟨v,b,rfl,a⟩,rfl⟩;obtain⟨E,F⟩:=(⟨a.out.2.1,a.out.2.2.1⟩:0<=v/\v<100000000000000);cases b)
       | (go_at_call 41;refine(EY s _ C).mono ?_;rintro e L ⟨rfl,f⟩;obtain⟨⟨l,m,n,o⟩,u,x,y,z⟩:=xA f;have HB:=aj (Cp f);clear f)
       | (go_at_call 96;refine(sk s _ (by omega)).mono ?_;rintro e M ⟨rfl,rfl⟩))
      ·exact aq (v:=.tuple #[oR 2 0 s,.bool (fR s.data.toList)]) (by simp[results,Tryz.results95,go_sem,oR,l,m,n,o]) rfl ⟨⟨2,0,s,_,rfl,by rw[c.out.1,<-a.out.1];rfl,λ_=>by rw[c.out.2,<-a.out.1];rfl,ai _,dh (by omega) (by omega),dh (by omega) (by omega)⟩,HB.out _ _ _ _⟩
      ·exact aq (v:=.tuple #[oR 1 v ⟨#[]⟩,.bool true]) (by simp[results,Tryz.results95,go_sem,oR]) rfl ⟨⟨1,v,⟨#[]⟩,_,rfl,by rw[c.out.1,<-a.out.1];rfl,λ_=>by rw[c.out.2,<-a.out.1,a.out.2.2.2 (by trivial)];rfl,aB _,dh (by omega) (by omega),dh (by omega) (by omega)⟩,by go_grown⟩
 ·have p:=Bg g;have A:(s.toList=[])=True:=by simpa using p
  have c:Hid (fe s=false):=by
   have D:s.size=0:=by omega
   have B:s.data.toList=[]:=by rw[<-bW];simpa using p
   simp[Hid,fe,bW,ex,B,D]
  go_enter Tryz.func95,Tryz.ntmps95;go_wp2_with fail;exact aq (v:=.tuple #[oR 0 0 ⟨#[]⟩,.bool false]) (by simp[results,Tryz.results95,go_sem,oR]) rfl ⟨⟨0,0,⟨#[]⟩,_,rfl,c.out.symm,by simp,aB _,dh (by omega) (by omega),dh (by omega) (by omega)⟩,by go_grown⟩
def MB(c:UInt8):Bool:=c==32
def xS(c:UInt8):Bool:=c==32 || c==40 || c==41
def fy(p:UInt8->Bool)(s:ByteArray)(i:Nat):Nat:=i+((s.data.toList.drop i).takeWhile p).length
theorem D0(s:ByteArray)(k:Nat)(a:k<s.size):s.data.toList.drop k=s[k]::s.data.toList.drop (k+1):=by
 rw[eR (by simpa using a)];rfl
theorem wT{p:UInt8->Bool}{s:ByteArray}{k:Nat}(a:k<s.size)(b:p s[k]=true):fy p s (k+1)=fy p s k:=by
 unfold fy;rw[D0 s k a,List.takeWhile_cons,if_pos b,aV];omega
theorem wU{p:UInt8->Bool}{s:ByteArray}{k:Nat}(a:k<s.size)(b:p s[k]=false):fy p s k=k:=by
 unfold fy;rw[D0 s k a,List.takeWhile_cons,if_neg (by simp[b])];rfl
theorem Bj{p:UInt8->Bool}{s:ByteArray}{k:Nat}(a:¬k<s.size):fy p s k=k:=by
 unfold fy;rw[oE (by simp;omega)];rfl
theorem yK(p:UInt8->Bool)(s:ByteArray)(k:Nat):k<=fy p s k:=jn _ _
theorem Ez(p:UInt8->Bool)(s:ByteArray)(k:Nat)(a:k<=s.size):fy p s k<=s.size:=by
 unfold fy;have b:=(List.takeWhile_sublist (l:=s.data.toList.drop k) p).length_le;have c:(s.data.toList.drop k).length=s.size-k:=by simp
 omega
def dt(s:ByteArray)(i:Nat):Nat:=fy MB s i
def dX(s:ByteArray)(i:Nat):Nat:=if fy (λc=> !xS c) s (dt s i)=dt s i/\dt s i<s.size then dt s i+1 else fy (λc=> !xS c) s (dt s i)
theorem lZ(s:ByteArray)(i:Nat):i<=dt s i:=yK _ _ _
theorem BG(s:ByteArray)(i:Nat)(a:i<=s.size):dt s i<=s.size:=Ez _ _ _ a
theorem BH(s:ByteArray)(i:Nat):dt s i<=dX s i:=by
 unfold dX;have:=yK (λc=> !xS c) s (dt s i);split<;>omega
theorem BI(s:ByteArray)(i:Nat)(a:i<=s.size):dX s i<=s.size:=by
 unfold dX;have:=Ez (λc=> !xS c) s (dt s i) (BG s i a);split<;>omega
theorem qX(s:ByteArray)(i:Nat)(a:dt s i<s.size):dt s i<dX s i:=by
 unfold dX;have:=yK (λc=> !xS c) s (dt s i);split<;>omega
theorem GX(s:ByteArray)(i:Nat)(a:i<=s.size)(b:¬dt s i<s.size):dt s i=s.size/\dX s i=s.size:=by
 have c:=BG s i a;have d:=BI s i a;have e:=BH s i;omega
def Rd(r:Nat)(s:ByteArray)(b e:Nat)(w:World):Prop:=w.heap[r]?=some (.cells #[.string s,.int .i64 b,.int .i64 e] 133)
theorem Rd.cells{r:Nat}{s:ByteArray}{b e:Nat}{w:World}(a:Rd r s b e w):(w.cell? ⟨r,0,none⟩=some (.string s)/\w.cell? ⟨r,1,none⟩=some (.int .i64 b)/\w.cell? ⟨r,2,none⟩=some (.int .i64 e))/\w.frozen? ⟨r,1,none⟩=false/\w.frozen? ⟨r,2,none⟩=false:=by
 unfold Rd at a;exact⟨⟨by simp[World.cell?,a],by simp[World.cell?,a],by simp[World.cell?,a]⟩,by simp[World.frozen?,a],by simp[World.frozen?,a]⟩
theorem Rd.set1{r:Nat}{s:ByteArray}{b e:Nat}{w:World}(a:Rd r s b e w)(k:Nat):Rd r s k e (w.setCell ⟨r,1,none⟩ (.int .i64 k)):=by
 unfold Rd at*;simp[World.setCell,bC,a]
theorem Rd.set2{r:Nat}{s:ByteArray}{b e:Nat}{w:World}(a:Rd r s b e w)(k:Nat):Rd r s b k (w.setCell ⟨r,2,none⟩ (.int .i64 k)):=by
 unfold Rd at*;simp[World.setCell,bC,a]
theorem Rd.drew{r:Nat}{s:ByteArray}{b e:Nat}{w:World}(a:Rd r s b e w)(n:Nat):Rd r s b e (w.drewN n):=a
theorem Rd.lt{r:Nat}{s:ByteArray}{b e:Nat}{w:World}(a:Rd r s b e w):r<w.heap.size:=(aA.1 a).1
theorem lO(w:World)(r o:Nat)(v:Value):w.grownBy (w.setCell ⟨r,o,none⟩ v) (some r):=
 ⟨rfl,rfl,rfl,by simp[World.setCell],λk _ b=>eC w _ v k (λa=>b (by rw[a]))⟩
theorem ei(w:World)(n:Nat)(q:Option Nat):w.grownBy (w.drewN n) q:=⟨rfl,rfl,rfl,ai _,λ_ _ _=>rfl⟩
theorem bN{w w1 w2:World}{q:Option Nat}(a:w.grownBy w1 q)(k:w1.grownBy w2 q):w.grownBy w2 q:=
 ⟨k.os.trans a.os,k.tape.trans a.tape,k.output.trans a.output,av a.size k.size,λd b c=>(k.block d (aJ b a.size) c).trans (a.block d b c)⟩
theorem Ik(c:UInt8)(w:World):ah 93 #[.int .u8 c.toNat] w λe w'=>e=.returned (.bool (xS c))/\w'=w:=by
 by_cases a:c=32
 ·subst a;go_enter Tryz.func93,Tryz.ntmps93;go_wp2_with fail
  all_goals go_ret
  all_goals exact⟨rfl,rfl⟩
 ·have d1:=jH (k:=32) (d:=32) rfl a;by_cases b:c=40
  ·subst b;go_enter Tryz.func93,Tryz.ntmps93;go_wp2_with fail
   all_goals go_ret
   all_goals exact⟨rfl,rfl⟩
  ·have g:=jH (k:=40) (d:=40) rfl b;by_cases f:c=41
   ·subst f;go_enter Tryz.func93,Tryz.ntmps93;go_wp2_with fail
    all_goals go_ret
    all_goals exact⟨rfl,rfl⟩
   ·have h:=jH (k:=41) (d:=41) rfl f;go_enter Tryz.func93,Tryz.ntmps93;go_wp2_with fail
    all_goals go_ret
    all_goals exact⟨bH (by rw[show xS c=false by simp[xS,a,b,f]];simp;omega),rfl⟩
theorem J0(r:Nat)(s:ByteArray)(b e:Nat)(w:World)(a:Rd r s b e w)(j:b<=e)(l:e<=s.size):ah 63 #[.pointer (some ⟨r,0,none⟩)] w λc w'=>c=.returned (.string (s.extract b e))/\∃n,w'=w.drewN n:=by
 obtain⟨⟨d,f,g⟩,h,i⟩:=a.cells;clear a;have k:(b:Int)<=e:=by omega
 have m:(e:Int)<=s.size:=by omega
 go_enter Tryz.func63,Tryz.ntmps63;go_wp2_with fail
 go_quiet (fail)
 go_wp2_with fail
 go_ret
 exact⟨by simp,_,rfl⟩
theorem pI{w w1 w2:World}{q:Option Nat}(a:w.grownBy w1 q)(c:w2.os=w1.os)(d:w2.tape=w1.tape)(e:w2.output=w1.output)(b:w2.heap=w1.heap):w.grownBy w2 q:=
 ⟨c.trans a.os,d.trans a.tape,e.trans a.output,by rw[b];exact a.size,λk f g=>by rw[b];exact a.block k f g⟩
theorem D5(c:UInt8)(w:World)(b:Bool)(a:xS c=b):ah 93 #[.int .u8 c.toNat] w λe w'=>e=.returned (.bool b)/\w'=w:=by
 rw[<-a];exact Ik c w
theorem qD(r:Nat)(s:ByteArray)(H g:Nat)(w:World)(e:Rd r s H g w)(L:g<=s.size)(X:s.size<=2048):ah 61 #[.pointer (some ⟨r,0,none⟩)] w λI w'=>I=.returned (.tuple #[])/\Hid (Rd r s (dt s g) (dX s g) w'/\w.grownBy w' (some r)):=by
 obtain⟨⟨B,v,x⟩,C,D⟩:=e.cells;have z:=aj (⟨e.set1 g,lO w r 1 (.int .i64 g)⟩:_/\_);clear e;go_enter Tryz.func61,Tryz.ntmps61;go_wp2_with fail;go_loopw [] (λwr=>∃k:Nat,k<=s.size/\Hid (Rd r s k g wr/\w.grownBy wr (some r)/\fy MB s k=dt s g)/\True) (λwr=>s.size-(intOf ((wr.cell? ⟨r,1,none⟩).getD undef)).toNat)
 case atStart=>exact⟨g,L,⟨z.out.1,z.out.2,rfl⟩,trivial⟩
 case round=>
  obtain⟨k,M,j,_⟩:=hrel;obtain⟨⟨B,v,x⟩,C,D⟩:=j.out.1.cells;by_cases h:∃e:k<s.size,s[k]=32
  ·obtain⟨b,J⟩:=h;have N:(k:Int)<s.size:=by omega
   have E:decide ((k:Int)<s.size)=true:=by simp;omega
   have u:=aj (wT (p:=MB) b (by simp[MB,J]));go_wp2_with fail
   go_quiet (fail)
   go_wp2_with fail;go_roundw
   case rel=>exact⟨k+1,by omega,⟨(j.out.1.drew nq).set1 (k+1),bN j.out.2.1 (bN (ei wr nq _) (lO _ _ _ _)),by rw[u.out];exact j.out.2.2⟩,trivial⟩
   case measure=>simp[go_sem,v,intOf];omega
  ·have i:Hid (dt s g=k):=by
     rw[<-j.out.2.2];by_cases b:k<s.size
     ·exact wU (p:=MB) b (by simp[MB];exact λe=>h ⟨b,e⟩)
     ·exact Bj (p:=MB) b
   have K:((¬k<s.size)/\decide ((k:Int)<s.size)=false)\/((k:Int)<s.size/\decide ((k:Int)<s.size)=true/\∃e:k<s.size,((s[k].toNat:Int)==32)=false):=by
    by_cases b:k<s.size
    ·have U:=jH (k:=32) (d:=32) rfl (λe=>h ⟨b,e⟩);exact af ⟨by omega,by simp;omega,b,by simp;omega⟩
    ·exact ae ⟨b,by simp;omega⟩
   clear h;rcases K with⟨b,E⟩|⟨N,E,b,V⟩
   all_goals
    go_wp2_with fail
    go_quiet (fail)
    have A:=aj (show Rd r s k k ((wr.drewN nq).setCell ⟨r,2,none⟩ (.int .i64 k))/\w.grownBy ((wr.drewN nq).setCell ⟨r,2,none⟩ (.int .i64 k)) (some r)from⟨(j.out.1.drew nq).set2 k,bN j.out.2.1 (bN (ei wr nq _) (lO _ _ _ _))⟩);go_wp2_with fail;go_loopw [] (λq=>∃a:Nat,a<=s.size/\k<=a/\Hid (Rd r s k a q/\w.grownBy q (some r)/\fy (λc=> !xS c) s a=fy (λc=> !xS c) s k)/\True) (λq=>s.size-(intOf ((q.cell? ⟨r,2,none⟩).getD undef)).toNat)
    case atStart=>exact⟨k,M,ai _,⟨A.out.1,A.out.2,rfl⟩,trivial⟩
    case round=>
     obtain⟨a,W,F,f,_⟩:=hrel;obtain⟨⟨B,v,x⟩,C,D⟩:=f.out.1.cells;by_cases h:∃e:a<s.size,xS s[a]=false
     ·obtain⟨n,o⟩:=h;have y:k<s.size:=Nat.lt_of_le_of_lt F n
      first|exact absurd y b|skip
      all_goals
       have T:(a:Int)<s.size:=by omega
       have G:decide ((a:Int)<s.size)=true:=by simp;omega
       have u:=aj (wT (p:=λc=> !xS c) n (by simp[o]));go_wp2_with fail
       go_quiet ((go_at_call 93;exact Calls.quiet_of_same (D5 s[a] _ _ o)))
       go_wp2_with fail;go_roundw
       case rel=>exact⟨a+1,by omega,by omega,⟨(f.out.1.drew _).set2 (a+1),bN f.out.2.1 (bN (ei _ _ _) (lO _ _ _ _)),by rw[u.out];exact f.out.2.2⟩,trivial⟩
       case measure=>simp[go_sem,x,intOf];omega
     ·have t:Hid (fy (λc=> !xS c) s k=a):=by
        rw[<-f.out.2.2];by_cases b:a<s.size
        ·exact wU (p:=λc=> !xS c) b (by simp;cases e:xS s[a];exact absurd ⟨b,e⟩ h;rfl)
        ·exact Bj (p:=λc=> !xS c) b
      have S:((¬a<s.size)/\decide ((a:Int)<s.size)=false)\/((a:Int)<s.size/\decide ((a:Int)<s.size)=true/\∃e:a<s.size,xS s[a]=true):=by
       by_cases b:a<s.size
       ·exact af ⟨by omega,by simp;omega,b,by cases e:xS s[a];exact absurd ⟨b,e⟩ h;rfl⟩
       ·exact ae ⟨b,by simp;omega⟩
      clear h;rcases S with⟨n,G⟩|⟨T,G,n,o⟩
      ·have m:Hid (dX s g=a):=by
         simp only[Hid,dX,i.out,t.out];rw[if_neg (by omega)]
       go_wp2_with fail
       go_quiet (fail)
       go_wp2_with fail;by_cases l:a=k
       ·first|exact absurd (show a<s.size by omega) n|skip
        all_goals
         subst l
         go_quiet (fail)
         go_wp2_with fail
         go_end0
         refine⟨rfl,?_,pI f.out.2.1 rfl rfl rfl rfl⟩;rw[i.out,m.out];exact f.out.1
       ·first|exact absurd (show a=k by omega) l|skip
        all_goals
         have O:((a:Int)==k)=false:=by simp;omega
         have P:(a==k)=false:=by simp;omega
         have Q:decide (a=k)=false:=by simp;omega
         have R:decide ((a:Int)=k)=false:=by simp;omega
         clear l
         go_quiet (fail)
         go_wp2_with fail
         go_end0
         refine⟨rfl,?_,pI f.out.2.1 rfl rfl rfl rfl⟩;rw[i.out,m.out];exact f.out.1
      ·have y:k<s.size:=Nat.lt_of_le_of_lt F n
       first|exact absurd y b|skip
       all_goals
        go_wp2_with fail
        go_quiet ((go_at_call 93;exact Calls.quiet_of_same (D5 s[a] _ _ o)))
        go_wp2_with fail;by_cases l:a=k
        ·have m:Hid (dX s g=a+1):=by
           simp only[Hid,dX,i.out,t.out];rw[if_pos ⟨l,by omega⟩];omega
         subst l
         go_quiet (fail)
         go_wp2_with fail
         go_end0
         refine⟨rfl,?_,bN f.out.2.1 (bN (ei _ _ _) (lO _ _ _ _))⟩;rw[i.out,m.out];exact Rd.set2 f.out.1 (a+1)
        ·have m:Hid (dX s g=a):=by
           simp only[Hid,dX,i.out,t.out];rw[if_neg (by omega)]
         have O:((a:Int)==k)=false:=by simp;omega
         have P:(a==k)=false:=by simp;omega
         have Q:decide (a=k)=false:=by simp;omega
         have R:decide ((a:Int)=k)=false:=by simp;omega
         clear l
         go_quiet (fail)
         go_wp2_with fail
         go_end0
         refine⟨rfl,?_,pI f.out.2.1 rfl rfl rfl rfl⟩;rw[i.out,m.out];exact f.out.1
abbrev fi:Type:=Nat×ByteArray
def BT(x:ByteArray):Bool:=x.toList==[40]
def xY(x:ByteArray):Bool:=x.toList==[41]
theorem KT{x:ByteArray}{c:UInt8}(a:(x.toList==[c])=true):x.data.toList=[c]/\x.size=1:=by
 rw[bW]at a;have b:x.data.toList=[c]:=by simpa using a
 refine⟨b,?_⟩;have:x.data.toList.length=x.size:=by simp
 rw[b]at this;simpa using this.symm
theorem ur{x:ByteArray}(a:xY x=true):fe x=false/\BT x=false:=by
 obtain⟨b,c⟩:=KT a;simp[fe,BT,ex,bW,b,ik,tU,fR,yg]
def DH{a:Type}(f:a->List fi->List fi->Prop):List a->List fi->List fi->Prop
 | [],ts,r=>ts=r
 | x::l,ts,r=>∃m,f x ts m/\DH f l m r
def Is:(n:Nat)->Tm n->List fi->List fi->Prop
 | 0,_,_,_=>False
 | n+1,x,ts,r=>∃t a,ts=t::a/\((BT t.2=false/\fe t.2=true/\x.1=kG t.2/\x.2.2=[]/\r=a)\/
    (BT t.2=true/\x.1=(4,0,⟨#[]⟩)/\∃c,DH (Is n) x.2.2 a (c::r)/\xY c.2=true))
theorem DH.snoc{b:Type}{f:b->List fi->List fi->Prop}{x:b}{r:List fi}:{l:List b}->{a m:List fi}->DH f l a m->f x m r->DH f (l++ [x]) a r
 | [],a,m,h,hx=>by
  have e:a=m:=h;subst e;exact⟨r,hx,rfl⟩
 | y::l,a,m,h,hx=>by
  obtain⟨q,c,d⟩:=h;exact⟨q,c,d.snoc hx⟩
theorem Is.head{n:Nat}{x:Tm n}{c r:List fi}(a:Is n x c r):∃t b,c=t::b/\xY t.2=false:=by
 cases n with
 | zero=>exact a.elim
 | succ n=>
  obtain⟨t,b,rfl,a⟩:=a;refine⟨t,b,rfl,?_⟩;cases hc:xY t.2
  ·rfl
  ·have:=ur hc;rcases a with a|a
   ·rw[this.1]at a;exact absurd a.2.1 (by simp)
   ·rw[this.2]at a;exact absurd a.1 (by simp)
theorem DH.one{n m:Nat}(ih:∀(x:Tm n)(y:Tm m)(d r f:List fi),Is n x d r->Is m y d f->au n x m y=true/\r=f):(p:List (Tm n))->(q:List (Tm m))->(d:List fi)->(c i:fi)->(r f:List fi)->xY c.2=true->xY i.2=true->DH (Is n) p d (c::r)->DH (Is m) q d (i::f)->az (λa b=>au n a m b) p q=true/\r=f
 | [],[],d,c,i,r,f,hc,hc',h,h'=>by
  have j:d=c::r:=h;have g:d=i::f:=h';rw[j]at g;injection g with _ e;exact⟨rfl,e⟩
 | [],y::q,d,c,i,r,f,hc,hc',h,h'=>by
  have j:d=c::r:=h;obtain⟨A,k,_⟩:=h';obtain⟨t,C,g,l⟩:=k.head;rw[j]at g;injection g with e _;rw[<-e,hc]at l;exact absurd l (by simp)
 | x::p,[],d,c,i,r,f,hc,hc',h,h'=>by
  have j:d=i::f:=h';obtain⟨A,k,_⟩:=h;obtain⟨t,C,g,l⟩:=k.head;rw[j]at g;injection g with e _;rw[<-e,hc']at l;exact absurd l (by simp)
 | x::p,y::q,d,c,i,r,f,hc,hc',h,h'=>by
  obtain⟨o,k,v⟩:=h;obtain⟨B,w,z⟩:=h';obtain⟨j,g⟩:=ih x y d o B k w;subst g;obtain⟨s,u⟩:=DH.one ih p q o c i r f hc hc' v z;exact⟨by simp only[az];rw[j,s];rfl,u⟩
theorem Is.one:(n:Nat)->(m:Nat)->(x:Tm n)->(y:Tm m)->(f r b:List fi)->Is n x f r->Is m y f b->au n x m y=true/\r=b
 | 0,_,_,_,_,_,_,a,_=>a.elim
 | _+1,0,_,_,_,_,_,_,a=>a.elim
 | n+1,m+1,x,y,f,r,b,a,g=>by
  obtain⟨t,z,rfl,a⟩:=a;obtain⟨t2,A,e,g⟩:=g;injection e with h i;subst h i;rcases a with⟨o,_,l,j,v⟩|⟨o,l,c,j,s⟩
  ·rcases g with⟨_,_,p,k,w⟩|⟨d,_⟩
   ·refine⟨?_,v.trans w.symm⟩;simp only[au,l,p,j,k,az];simp
   ·rw[o]at d;exact absurd d (by simp)
  ·rcases g with⟨d,_⟩|⟨_,p,q,k,u⟩
   ·rw[o]at d;exact absurd d (by simp)
   ·obtain⟨h,i⟩:=DH.one (λx y f r b=>Is.one n m x y f r b) x.2.2 y.2.2 z c q r b s u j k;refine⟨?_,i⟩;simp only[au,l,p,h];simp
theorem Is.nodes:(n:Nat)->(x:Tm n)->(a r:List fi)->Is n x a r->(ar n x).length+r.length<=a.length
 | 0,_,_,_,b=>b.elim
 | n+1,x,a,r,b=>by
  have key:∀(l:List (Tm n))(a r:List fi),DH (Is n) l a r->(l.flatMap λy=>Proofs.YtckamaoibonjcaaGreat.nodes n y).length+r.length<=a.length:=by
   intro l
   induction l with
   | nil=>intro a r b;have f:a=r:=b;subst f;simp
   | cons y l ih=>
    intro a r b;obtain⟨e,g,h⟩:=b;have:=Is.nodes n y a e g;have:=ih e r h;simp only[bv,aY];omega
  obtain⟨t,k,rfl,b⟩:=b;simp only[Proofs.YtckamaoibonjcaaGreat.nodes,aV];rcases b with⟨o,_,j,d,i⟩|⟨o,j,c,d,m⟩
  ·rw[d,i];simp;omega
  ·have:=key x.2.2 k (c::r) d;simp only[aV]at this;omega
def jC(L:Nat):List fi->Nat->Option Nat
 | [],0=>none
 | [],_+1=>some L
 | t::_,0=>some t.1
 | t::ts,d+1=>if BT t.2 then jC L ts (d+2)else if xY t.2 then jC L ts d else if fe t.2 then jC L ts (d+1)else some t.1
def BS(L:Nat):List fi->Nat->Option Nat
 | [],_=>some L
 | t::ts,d=>if BT t.2 then jC L ts (d+1)else if fe t.2 then jC L ts d else some t.1
def Jc(L:Nat):List fi->Nat
 | []=>L
 | t::_=>t.1
theorem Be(L:Nat)(a:List fi)(d:Nat)(b:∀t c,a=t::c->xY t.2=false):jC L a (d+1)=BS L a (d+1):=by
 cases a with
 | nil=>rfl
 | cons t a=>simp only[jC,BS];rw[b t a rfl];simp
theorem Db(L:Nat)(t:fi)(b:List fi)(d:Nat)(a:xY t.2=true):jC L (t::b) (d+1)=jC L b d:=by
 simp only[jC];rw[(ur a).2,a];simp
theorem wP{c d:Type}(f:c->d->Bool):(p:List c)->(q:List d)->az f p q=true->p.length=q.length
 | [],[],_=>rfl
 | [],_::_,h=>by simp[az]at h
 | _::_,[],h=>by simp[az]at h
 | a::p,b::q,h=>by
  simp only[az,ax]at h;simp[wP f p q h.2]
theorem KQ{k b f g:Int}{s e:ByteArray}{l d c i:Nat}{a h:Option Addr}(j:k=b)(m:f=g)(n:s=e)(o:l=d):co ((k,f,s),(a,l,c))=co ((b,g,e),(h,d,i)):=by
 subst j m n o;rfl
theorem sC:(n m:Nat)->(x:Tm n)->(y:Tm m)->au n x m y=true->bR n x=bR m y/\eX n x=eX m y/\sz n x=sz m y
 | 0,_,_,_,c=>by simp[au]at c
 | _+1,0,_,_,c=>by simp[au]at c
 | n+1,m+1,x,y,c=>by
  have key:∀(p:List (Tm n))(q:List (Tm m)),az (λa b=>au n a m b) p q=true->
    (p.all λy=>bR n y)=(q.all λy=>bR m y)/\(∀a,p.foldl (λm y=>max m (eX n y)) a=q.foldl (λk y=>max k (eX m y)) a)/\(p.map λy=>1+sz n y).sum=(q.map λy=>1+sz m y).sum:=by
   intro p
   induction p with
   | nil=>
    intro q c;cases q with
    | nil=>simp
    | cons b q=>simp[az]at c
   | cons a p ih=>
    intro q c;cases q with
    | nil=>simp[az]at c
    | cons b q=>
     simp only[az,ax]at c;obtain⟨j,l,o⟩:=sC n m a b c.1;obtain⟨e,f,g⟩:=ih q c.2;refine⟨by simp only[iK,j,e],λv=>?_,by simp only[aG,bq,o,g]⟩;simp only[fD,l];exact f _
  simp only[au,ax,cd]at c;obtain⟨⟨⟨d,r⟩,h⟩,i⟩:=c;obtain⟨e,f,g⟩:=key _ _ i;have t:=wP _ _ _ i;have u:x.1.2.2=y.1.2.2:=by
   rw[bW,bW]at h;exact ByteArray.ext (l7.1 h)
  refine⟨?_,?_,?_⟩
  ·have s:co (bu n x)=co (bu m y):=KQ d r u t;simp only[bR,s,d,e]
  ·simp only[eX,d,f]
  ·simp only[sz,d,g]
theorem Gl(n m:Nat)(x:Tm n)(y:Tm m)(a:au n x m y=true):bm n x=bm m y:=by
 obtain⟨b,c,d⟩:=sC n m x y a;rw[<-fZ,<-fZ];simp only[vF,b,c,d]
def qT:Nat->ByteArray->Nat->List fi
 | 0,_,_=> []
 | f+1,s,i=>if dt s i<s.size then (dt s i,s.extract (dt s i) (dX s i))::qT f s (dX s i)else []
def jw(s:ByteArray)(i:Nat):List fi:=qT (s.size-i) s i
theorem mS(s:ByteArray):(f g i:Nat)->s.size-i<=f->s.size-i<=g->qT f s i=qT g s i
 | 0,0,_,_,_=>rfl
 | 0,g+1,i,h,_=>by
  have:=lZ s i;simp only[qT];rw[if_neg (by omega)]
 | f+1,0,i,_,h=>by
  have:=lZ s i;simp only[qT];rw[if_neg (by omega)]
 | f+1,g+1,i,h,h'=>by
  simp only[qT];by_cases a:dt s i<s.size
  ·rw[if_pos a,if_pos a];have b:=qX s i a;have c:=lZ s i;rw[mS s f g (dX s i) (by omega) (by omega)]
  ·rw[if_neg a,if_neg a]
theorem xd(s:ByteArray)(i:Nat)(a:dt s i<s.size):jw s i=(dt s i,s.extract (dt s i) (dX s i))::jw s (dX s i):=by
 have b:=qX s i a;have c:=lZ s i;unfold jw;rw[mS s (s.size-i) (s.size-i+1) i (by omega) (by omega)];simp only[qT];rw[if_pos a,mS s (s.size-i) (s.size-dX s i) (dX s i) (by omega) (by omega)]
theorem uX(s:ByteArray)(i:Nat)(a:¬dt s i<s.size):jw s i=[]:=by
 unfold jw;rw[mS s (s.size-i) (s.size-i+1) i (by omega) (by omega)];simp only[qT];rw[if_neg a]
theorem ld(s:ByteArray):(f i:Nat)->s.size-i<=f->(jw s i).length<=s.size-i
 | 0,i,h=>by
  have:=lZ s i;rw[uX s i (by omega)];simp
 | f+1,i,h=>by
  by_cases a:dt s i<s.size
  ·have b:=qX s i a;have c:=lZ s i;rw[xd s i a];have:=ld s f (dX s i) (by omega);simp only[aV];omega
  ·rw[uX s i a];simp
def At(s:ByteArray)(b e:Nat)(a:List fi):Prop:=
 b<=e/\e<=s.size/\((b=s.size/\a=[])\/(b<e/\a=(b,s.extract b e)::jw s e))
theorem At.next{s:ByteArray}{i:Nat}(b:i<=s.size):At s (dt s i) (dX s i) (jw s i):=by
 refine⟨BH s i,BI s i b,?_⟩;by_cases a:dt s i<s.size
 ·exact af ⟨qX s i a,xd s i a⟩
 ·exact ae ⟨(GX s i b a).1,uX s i a⟩
theorem At.pos{s:ByteArray}{b e:Nat}{a:List fi}(c:At s b e a):Jc s.size a=b:=by
 rcases c.2.2 with⟨d,rfl⟩|⟨_,rfl⟩
 ·exact d.symm
 ·rfl
theorem At.nil{s:ByteArray}{b e:Nat}(a:At s b e []):(s.extract b e).toList=[]:=by
 rcases a.2.2 with⟨d,_⟩|⟨_,c⟩
 ·rw[bW];apply bD;have:=a.2.1;simp;omega
 ·exact absurd c (by simp)
theorem At.cons{s:ByteArray}{b e:Nat}{t:fi}{d:List fi}(c:At s b e (t::d)):t=(b,s.extract b e)/\d=jw s e/\0<(s.extract b e).size:=by
 rcases c.2.2 with⟨_,a⟩|⟨h,a⟩
 ·exact absurd a (by simp)
 ·injection a with f g;refine⟨f,g,?_⟩;have:=c.2.1;simp;omega
-- Sign by sign:what a sign does to the words ahead.
theorem ft{w w1:World}{q:Option Nat}(a:w.grownBy w1 q)(o:Obj):w.grownBy (w1.alloc o) q:=
 ⟨a.os,a.tape,a.output,by have:=a.size;simp;omega,λk b c=>by
  exact(((ak w1.heap.size w1).alloc (ai _) o).block k (aJ b a.size)).trans (a.block k b c)⟩
theorem lN{w w1:World}{q:Option Nat}(a:w.grownBy w1 q){b:Nat}(e:w.heap.size<=b)(o:Nat)(v:Value):w.grownBy (w1.setCell ⟨b,o,none⟩ v) q:=
 ⟨a.os,a.tape,a.output,by simpa [World.setCell]using a.size,λk c d=>(eC w1 ⟨b,o,none⟩ v k (by simp;omega)).trans (a.block k c d)⟩
theorem FK{w w1 w2:World}{q:Option Nat}(a:w.grownBy w1 q){g:Option Nat}(k:w1.grownBy w2 g)(f:∀b,g=some b->w.heap.size<=b):w.grownBy w2 q:=
 ⟨k.os.trans a.os,k.tape.trans a.tape,k.output.trans a.output,av a.size k.size,λc d h=>(k.block c (aJ d a.size) (λe=>by have:=f c e.symm;omega)).trans (a.block c d h)⟩
theorem nC{w w1 w2:World}{q:Option Nat}(a:w.grownBy w1 q)(k:ag w1 w2):w.grownBy w2 q:=
 ⟨k.os.trans a.os,k.tape.trans a.tape,k.output.trans a.output,av a.size k.size,λc b d=>(k.block c (aJ b a.size)).trans (a.block c b d)⟩
theorem Rd.block{r:Nat}{s:ByteArray}{b e:Nat}{w w':World}(a:Rd r s b e w)(k:w'.heap[r]?=w.heap[r]?):Rd r s b e w':=k.trans a
theorem Rd.alloc{r:Nat}{s:ByteArray}{b e:Nat}{w:World}(a:Rd r s b e w)(o:Obj):Rd r s b e (w.alloc o):=
 a.block (((ak w.heap.size w).alloc (ai _) o).block r a.lt)
theorem Rd.far{r:Nat}{s:ByteArray}{b e:Nat}{w:World}(a:Rd r s b e w){g:Nat}(c:r<g)(o:Nat)(v:Value):Rd r s b e (w.setCell ⟨g,o,none⟩ v):=
 a.block (eC w ⟨g,o,none⟩ v r (by simp;omega))
def ahead(s:ByteArray)(b e:Nat):List fi:=if b<s.size then (b,s.extract b e)::jw s e else []
def NK(r:Nat)(s:ByteArray)(w:World):Nat:=(ahead s (intOf ((w.cell? ⟨r,1,none⟩).getD undef)).toNat (intOf ((w.cell? ⟨r,2,none⟩).getD undef)).toNat).length
theorem IT{r:Nat}{s:ByteArray}{b e:Nat}{w:World}{a:List fi}(f:Rd r s b e w)(k:At s b e a):NK r s w=a.length:=by
 obtain⟨⟨h,c,d⟩,i,j⟩:=f.cells;simp only[NK,c,d,Option.getD_some,intOf,Int.toNat_natCast,ahead];rcases k.2.2 with⟨g,rfl⟩|⟨g,rfl⟩
 ·rw[if_neg (by omega)]
 ·rw[if_pos (by have:=k.2.1;omega)]
def lh(n:Nat)(s:ByteArray)(r:Nat)(e:List fi)(w w':World)(v:Value)(ok:Bool):Prop:=
 w.grownBy w' (some r)/\∃b f c,Rd r s b f w'/\At s b f c/\
  (ok=true->(∃d:Tm n,df n d=v/\Is n d e c/\In w'.heap.size w' n d/\bV (λg=>w.heap.size<=g) n d)/\∀a,BS s.size e a=jC s.size c a)/\
  (ok=false->∀a,BS s.size e a=some (Jc s.size c))
def Kj(n:Nat)(s:ByteArray)(r:Nat)(d:List fi)(w w':World)(e:Ending):Prop:=
 ∃(k b:Int)(t:ByteArray)(a:Option Addr)(l c:Nat)(ok:Bool),e=.returned (.tuple #[.agg #[.int .i64 k,.int .i64 b,.string t,.slice a l c],.bool ok])/\
  Hid (lh n s r d w w' (.agg #[.int .i64 k,.int .i64 b,.string t,.slice a l c]) ok)
def LU(n:Nat):Prop:=∀(r:Nat)(s:ByteArray)(b e:Nat)(a:List fi)(w:World),Rd r s b e w->At s b e a->s.size<=2048->a.length<=n->
 ah 62 #[.pointer (some ⟨r,0,none⟩)] w λc w'=>Kj (n+1) s r a w w' c
theorem oz(r:Nat)(s:ByteArray)(b e:Nat)(x:ByteArray)(w:World)(c:Rd r s b e w)(d:b<=e)(f:e<=s.size)(g:s.extract b e=x):ah 63 #[.pointer (some ⟨r,0,none⟩)] w λa w'=>a=.returned (.string x)/\∃n,w'=w.drewN n:=by
 subst g;exact J0 r s b e w c d f
def Bx(q:Nat)(v0 v1 v2 v3:Value)(w:World):Prop:=w.heap[q]?=some (.cells #[v0,v1,v2,v3] 30)
theorem Bx.cells{q:Nat}{v0 v1 v2 v3:Value}{w:World}(a:Bx q v0 v1 v2 v3 w):(w.cell? ⟨q,0,none⟩=some v0/\w.cell? ⟨q,1,none⟩=some v1/\w.cell? ⟨q,2,none⟩=some v2/\w.cell? ⟨q,3,none⟩=some v3)/\ (w.frozen? ⟨q,0,none⟩=false/\w.frozen? ⟨q,1,none⟩=false/\w.frozen? ⟨q,2,none⟩=false/\w.frozen? ⟨q,3,none⟩=false):=by
 unfold Bx at a;exact⟨⟨by simp[World.cell?,a],by simp[World.cell?,a],by simp[World.cell?,a],by simp[World.cell?,a]⟩,by simp[World.frozen?,a],by simp[World.frozen?,a],by simp[World.frozen?,a],by simp[World.frozen?,a]⟩
theorem Bx.block{q:Nat}{v0 v1 v2 v3:Value}{w w':World}(a:Bx q v0 v1 v2 v3 w)(k:w'.heap[q]?=w.heap[q]?):Bx q v0 v1 v2 v3 w':=k.trans a
theorem Bx.lt{q:Nat}{v0 v1 v2 v3:Value}{w:World}(a:Bx q v0 v1 v2 v3 w):q<w.heap.size:=(aA.1 a).1
theorem Bx.set3{q:Nat}{v0 v1 v2 v3:Value}{w:World}(a:Bx q v0 v1 v2 v3 w)(v:Value):Bx q v0 v1 v2 v (w.setCell ⟨q,3,none⟩ v):=by
 unfold Bx at*;simp[World.setCell,bC,a]
theorem Bx.new(w:World)(v0 v1 v2 v3:Value):Bx w.heap.size v0 v1 v2 v3 (w.alloc (.cells #[v0,v1,v2,v3] 30)):=ay w _
def G8(n:Nat)(r:Nat)(s:ByteArray)(c:List fi)(w:World)(b e:Nat)(v:Value)(wr:World)(l:List (Tm (n+1)))(a:List fi):Prop:=
 Rd r s b e wr/\At s b e a/\(w.alloc (.cells #[.int .i64 0,.int .i64 0,.string ⟨#[]⟩,.slice none 0 0] 30)).grownBy wr (some r)/\qi (w.heap.size+2) (n+1) l v wr/\
  Bx w.heap.size (.int .i64 0) (.int .i64 0) (.string ⟨#[]⟩) (.slice none 0 0) wr/\Bx (w.heap.size+1) (.int .i64 4) (.int .i64 0) (.string ⟨#[]⟩) v wr/\
  DH (Is (n+1)) l c a/\a.length<=c.length/\∀d,jC s.size c (d+1)=jC s.size a (d+1)
def Kl(n:Nat)(r:Nat)(s:ByteArray)(c:List fi)(w:World)(b e:Nat)(v:Value)(wr:World):Prop:=
 ∃(l:List (Tm (n+1)))(a:List fi),G8 n r s c w b e v wr l a
theorem fl(w:World)(o:Obj){q:Nat}(a:q<w.heap.size):(w.alloc o).heap[q]?=w.heap[q]? :=(cV w o none).block q a (by simp)
theorem GL{n r:Nat}{s:ByteArray}{b e:Nat}{i:fi}{a:List fi}{w w1:World}(h:Rd r s b e w)(c:At s b e (i::a))(k:Rd r s (dt s e) (dX s e) w1)(g:((w.alloc (.cells #[.int .i64 0,.int .i64 0,.string ⟨#[]⟩,.slice none 0 0] 30)).alloc (.cells #[.int .i64 4,.int .i64 0,.string ⟨#[]⟩,.slice none 0 0] 30)).grownBy w1 (some r)):Kl n r s a w (dt s e) (dX s e) (.slice none 0 0) w1:=by
 have j:=h.lt;have d:=(At.cons c).2.1;refine⟨[],a,k,by rw[d];exact At.next c.2.1,bN (cV _ _ _) g,⟨⟨rfl,ae ⟨rfl,rfl⟩⟩,by simp⟩,?_,?_,rfl,ai _,λ_=>rfl⟩
 ·exact((Bx.new w _ _ _ _).block (fl _ _ (by simp))).block (g.block _ (by simp;omega) (by simp;omega))
 ·have:=Bx.new (w.alloc (.cells #[.int .i64 0,.int .i64 0,.string ⟨#[]⟩,.slice none 0 0] 30)) (.int .i64 4) (.int .i64 0) (.string ⟨#[]⟩) (.slice none 0 0);have f:(w.alloc (.cells #[.int .i64 0,.int .i64 0,.string ⟨#[]⟩,.slice none 0 0] 30)).heap.size=w.heap.size+1:=by simp
  rw[f]at this;exact this.block (g.block _ (by simp) (by simp;omega))
theorem qi.kept{base n:Nat}{l:List (Tm n)}{v:Value}{w w':World}(a:qi base n l v w){r:Nat}(g:w.grownBy w' (some r))(k:r<base):qi base n l v w':=by
 refine⟨a.1.kept g (af λf=>by have:=a.1.lt r f;omega),λe d=>⟨?_,(a.2 e d).2⟩⟩;obtain⟨c,h⟩:=a.2 e d;have i:=In.offB h c;exact(In.off (λb j=>g.block b j.2 (by simp;omega)) i c).mono g.size
theorem qi.snoc{base n:Nat}{l:List (Tm (n+1))}{v:Value}{w0 w w2:World}(h:qi base (n+1) l v w0){r:Nat}(i:w0.grownBy w (some r))(A:r<base){x:Tm (n+1)}(C:In w.heap.size w (n+1) x)(y:bV (λq=>w0.heap.size<=q) (n+1) x)(D:base<=w0.heap.size){w1:World}(j:w.grownBy w1 none){g c:Nat}(z:w2.ownsRow base 30 4 (.slice (some ⟨g,0,none⟩) (l.length+1) c) (l.length+1) (ci (l.map (fX (n+1)))++uB (fX (n+1) x)))(k:w1.grownBy w2 v.ownBlock)(u:v.ownBlock=some g\/g=w1.heap.size):qi base (n+1) (l++ [x]) (.slice (some ⟨g,0,none⟩) (l.length+1) c) w2:=by
 have p:=h.kept i A;have E:=i.size;have F:=j.size;have G:=k.size;have B:∀b,v.ownBlock=some b->b<w0.heap.size:=λb d=>(h.1.lt b d).2;refine⟨by simpa [ci]using z,λa f=>?_⟩
 have key:∀a:Tm (n+1),In w.heap.size w (n+1) a->bV (λb=>base<=b/\v.ownBlock≠some b) (n+1) a->
   In w2.heap.size w2 (n+1) a/\bV (λb=>base<=b/\(Value.slice (some ⟨g,0,none⟩) (l.length+1) c).ownBlock≠some b) (n+1) a:=by
  intro a m t;have o:=In.offB t m;refine⟨(In.off (λb e=>(k.block b (by omega) (λd=>e.1.2 d.symm)).trans (j.block b e.2 (by simp))) o m).mono (by omega),o.mono λb e=>⟨e.1.1,?_⟩⟩;intro d;have s:g=b:=by simpa [Value.ownBlock]using d
  rcases u with h|h
  ·exact e.1.2 (by rw[h,s])
  ·omega
 rcases cN.1 f with f|f
 ·exact key a (p.2 a f).1 (p.2 a f).2
 ·have d:a=x:=by simpa using f
  subst d;exact key a C (y.mono λb e=>⟨by omega,λd=>by have:=B b d;omega⟩)
theorem GI{n r:Nat}{s:ByteArray}{p:fi}{q:List fi}{w wr w2:World}{b e:Nat}{a:Option Addr}{L c m:Nat}(O:r<w.heap.size)(y:BT p.2=true)(B:Kl n r s q w b e (.slice a L c) wr)(j:xY (s.extract b e)=true)(k:Rd r s (dt s e) (dX s e) w2)(g:(wr.drewN m).grownBy w2 (some r)):lh (n+2) s r (p::q) (w.alloc (.cells #[.int .i64 0,.int .i64 0,.string ⟨#[]⟩,.slice none 0 0] 30)) w2 (.agg #[.int .i64 4,.int .i64 0,.string ⟨#[]⟩,.slice a L c]) true/\ Bx w.heap.size (.int .i64 0) (.int .i64 0) (.string ⟨#[]⟩) (.slice none 0 0) w2/\Bx (w.heap.size+1) (.int .i64 4) (.int .i64 0) (.string ⟨#[]⟩) (.slice a L c) w2:=by
 obtain⟨l,o,K,h,u,C,v,x,D,M,E⟩:=B;have Q:=u.size;have H:=x.lt;have i:wr.grownBy w2 (some r):=bN (ei wr m _) g;obtain⟨I,J,ev,G,F⟩:=(C.kept i (by omega)).tup;injection ev with d f A;subst d f A;refine⟨⟨bN u i,dt s e,dX s e,jw s e,k,At.next h.2.1,λ_=>⟨⟨_,rfl,?_,F,G.mono λP N=>by simp;omega⟩,?_⟩,by simp⟩,v.block (i.block _ v.lt (by simp;omega)),x.block (i.block _ H (by simp;omega))⟩
 ·cases o with
  | nil=>simp[xY,h.nil]at j
  | cons t o=>
   obtain⟨d,f,_⟩:=h.cons;subst d f;exact⟨p,q,rfl,af ⟨y,rfl,_,D,j⟩⟩
 ·intro z;cases o with
  | nil=>simp[xY,h.nil]at j
  | cons t o=>
   obtain⟨d,f,_⟩:=h.cons;subst d f;simp only[BS,y,cE];rw[E z,Db _ _ _ _ j]
theorem lh.box{n r:Nat}{s:ByteArray}{d:List fi}{w w1:World}{o:Obj}{v:Value}{ok:Bool}(a:r<w.heap.size)(g:lh n s r d (w.alloc o) w1 v ok)(v0 v1 v2 v3:Value):lh n s r d w ((((w1.setCell ⟨w.heap.size,0,none⟩ v0).setCell ⟨w.heap.size,1,none⟩ v1).setCell ⟨w.heap.size,2,none⟩ v2).setCell ⟨w.heap.size,3,none⟩ v3) v ok:=by
 obtain⟨h,b,f,q,i,j,k,l⟩:=g;refine⟨lN (lN (lN (lN (bN (cV _ _ _) h) (ai _) _ _) (ai _) _ _) (ai _) _ _) (ai _) _ _,b,f,q,(((i.far a _ _).far a _ _).far a _ _).far a _ _,j,λm=>?_,l⟩;obtain⟨⟨t,u,x,y,e⟩,z⟩:=k m;have c:∀b,(w.alloc o).heap.size<=b->((((w1.setCell ⟨w.heap.size,0,none⟩ v0).setCell ⟨w.heap.size,1,none⟩ v1).setCell ⟨w.heap.size,2,none⟩ v2).setCell ⟨w.heap.size,3,none⟩ v3).heap[b]?=w1.heap[b]? :=λb c=>by
  have A:w.heap.size<b:=by simp at c;omega
  rw[eC _ _ _ _ (by simp;omega),eC _ _ _ _ (by simp;omega),eC _ _ _ _ (by simp;omega),eC _ _ _ _ (by simp;omega)]
 refine⟨⟨t,u,x,(In.off c e y).mono (by simp[World.setCell]),e.mono λB p=>by simp at p;omega⟩,z⟩
theorem lh.alloc{n r:Nat}{s:ByteArray}{a:List fi}{w w1:World}{v:Value}{ok:Bool}(f:lh n s r a w w1 v ok)(o:Obj):lh n s r a w (w1.alloc o) v ok:=by
 obtain⟨g,b,e,p,h,i,j,k⟩:=f;refine⟨ft g o,b,e,p,h.alloc o,i,λm=>?_,k⟩;obtain⟨⟨q,t,u,c,d⟩,x⟩:=j m;exact⟨⟨q,t,u,(In.off (λb l=>fl w1 o l.2) (In.offB d c) c).mono (by simp),d⟩,x⟩
end Go.Proofs.YtckamaoibonjcaaGreat
