/- Proved here: plain facts and contracts. No condition but what each names. -/
import Derived.Test.YtmmahddlcldmiaaGreatDoorT28
import Derived.BigRegion
namespace Go.Proofs.YtmmahddlcldmiaaGreatDoor
open Go.RowKit Go.Proofs.Tryz
open Go.RowKit Go.Maps
set_option maxHeartbeats 8000000
set_option maxRecDepth 100000
theorem E8{n m:Nat}{P:List (Bh (n+1))}{Q:List (Bh (m+1))}(d:ay (n+6) (bK n P) (m+6) (bK m Q)=true)(f:ki n P=0)(g:ki m Q=0){s:Sy}(q:∀a nm cs c,s.get a=some (nm,cs,c)->(bv 13 cs=0/\aK 13 cs=true)/\∀t∈c,bv 13 t=0/\aK 13 t=true)(v:0<=s.last/\s.last<=90)(room i a b:Int)(k:Nat)(x:Tm k):s.do n P room i a b k x=s.do m Q room i a b k x:=by
 have p:lf n P=lf m Q:=funext λnm=>vm d nm;have r:s.run n P room a=s.run m Q room a:=by
  unfold Sy.run;cases e:s.get a with
  | none=>rfl
  | some u=>
   obtain⟨nm,cs,c⟩:=u;obtain⟨j,l⟩:=q a nm cs c e;have h:=Ij d f g room nm a (s.last+1) ⟨by omega,by omega⟩ j l;have o:rN n room P nm a (s.last+1) cs c=rN m room Q nm a (s.last+1) cs c:=by
    unfold rN;rw[h,f,g]
   simp only[o,h,Sy.made,p];split
   ·cases nA room Q nm a (s.last+1) cs c<;>rfl
   ·rfl
 unfold Sy.do;rw[r]
theorem qy{n m:Nat}{P:List (Bh (n+1))}{Q:List (Bh (m+1))}(a:ay (n+6) (bK n P) (m+6) (bK m Q)=true)(s:Sy)(room:Int)(nm:ByteArray)(k:Nat)(x:Tm k):s.start n P room nm k x=s.start m Q room nm k x:=by
 unfold Sy.start;rw[vm a]
theorem Kd{n:Nat}{P:List (Bh (n+1))}{k d:Nat}{x:Tm k}{y:Tm d}(c:ay k x d y=true)(s:Sy)(room a b:Int):s.do n P room 3 a b k x=s.do n P room 3 a b d y:=by
 unfold Sy.do Sy.inject;rw[bJ c,cB _ _ _ _ c,ic c]
def qH:ByteArray:=⟨#[99,111,117,110,116]⟩
def Ql:ByteArray:=⟨#[117,112]⟩
def Qk:ByteArray:=⟨#[97,115,107]⟩
def PK:ByteArray:=⟨#[104,97,118,101]⟩
def tw:ByteArray:=⟨#[102,111,114,107]⟩
def CF:ByteArray:=⟨#[98,97,100]⟩
def wA:ByteArray:=⟨#[97]⟩
def Pc:Option Addr×Nat:=(none,0)
def JG(N:Nat):Tm (N+1):=bR 6 0 N
def Mr(a:Int)(N:Nat):Tm (N+1):=bR 1 a N
def JJ(a:Int)(N:Nat):Tm (N+1):=bR 5 a N
def fG:List (Bh 2):=[(qH,Pc,[
 ((JJ 0 1,cY 1 [aZ Ql 0,JJ 1 0],cY 1 [aZ wm 0,JJ 0 0,JJ 1 0]),Pc,[]),
 ((JJ 0 1,cY 1 [aZ Qk 0,JJ 1 0],JJ 0 1),Pc,[(1,(JJ 1 1,cY 1 [aZ PK 0,JJ 0 0]),.empty,0)]),
 ((JG 1,aZ tw 1,Mr 1 1),Pc,[(2,(zT 1,Mr 0 1),qH,0),(3,(JJ 0 1,zT 1),.empty,0),(1,(JJ 0 1,cY 1 [aZ Ql 0,Mr 7 0]),.empty,0)]),
 ((JG 1,aZ lL 1,Mr 0 1),Pc,[(4,(zT 1,zT 1),.empty,0)]),
 ((JG 1,aZ CF 1,cY 1 [aZ wm 0,aZ wA 0,aZ wA 0]),Pc,[])])]
def vB:Tc:=cY 12 [aZ Ql 11,Mr 3 11]
def Gj:Sy:=(Nl.start 1 fG 60 qH 1 (Mr 2 0)).1
theorem JM:ki 1 fG=0:=by kernel_rfl
theorem Gk:(Nl.start 1 fG 60 qH 1 (Mr 2 0)).2=0/\Gj.last=1:=⟨by kernel_rfl,by kernel_rfl⟩
def LU:List (Int×Int×Int×Tc):=[(3,1,0,vB),(1,1,0,tz),(3,1,0,aZ tw 12),(1,1,0,tz),(2,1,2,tz),(1,2,0,tz)]
def Pv:List (Int×Int×Int×Tc):=[(3,1,0,aZ CF 12),(1,1,0,tz)]
def JH(s:Sy)(e:Int×Int×Int×Tc):Sy×Int:=s.do 1 fG 60 e.1 e.2.1 e.2.2.1 13 e.2.2.2
def ze(s:Sy)(l:List (Int×Int×Int×Tc)):Sy:=l.foldl (λs e=>(JH s e).1) s
def C9:Sy->List (Int×Int×Int×Tc)->Bool
 | _,[]=>true
 | s,e::l=>(JH s e).2==0 && C9 (JH s e).1 l
theorem JK:C9 Gj LU=true:=by kernel_rfl
theorem Mt:C9 (ze Gj LU) Pv=true:=by kernel_rfl
theorem Ow:(ze Gj LU).ps.map (·.1)=[1,2]:=by kernel_rfl
theorem JL:((ze Gj LU).get 2).map (λv=>(v.1,v.2.1.1))=some (qH,1,7,.empty):=by kernel_rfl
theorem Ms:(ze (ze Gj LU) Pv).ps=[]:=by kernel_rfl
def j8(c:UInt8):Bool:=decide (48<=(c.toNat:Int)) && decide ((c.toNat:Int)<=57)
def fl(l:List UInt8):Bool:=l.all j8
def jK(l:List UInt8):Int:=l.foldl (λn c=>10*n+((c.toNat:Int)-48)) 0
def dx(s:ByteArray)(m:Int):Bool:=decide (1<=(s.size:Int)) && decide ((s.size:Int)<=m) && !(s.data.toList[0]?==some 48 && decide (1<(s.size:Int))) && fl s.data.toList
theorem uR(s:ByteArray)(k:Nat)(a:k<s.size):fl (s.data.toList.take (k+1))=(fl (s.data.toList.take k) && j8 s[k]):=by
 rw[sM s k a];simp[fl]
theorem G6(s:ByteArray)(k:Nat)(a:k<s.size):jK (s.data.toList.take (k+1))=10*jK (s.data.toList.take k)+((s[k].toNat:Int)-48):=by
 rw[sM s k a];simp[jK]
theorem DI(l:List UInt8):fl l=true->0<=jK l/\jK l<10 ^ l.length:=by
 suffices g:∀(l:List UInt8)(a:Int)(b:Nat),fl l=true->0<=a->a<10 ^ b->0<=l.foldl (λn c=>10*n+((c.toNat:Int)-48)) a/\l.foldl (λn c=>10*n+((c.toNat:Int)-48)) a<10 ^ (b+l.length) by
  intro d;have:=g l 0 0 d (by omega) (by simp);simpa [jK]using this
 intro l
 induction l with
 | nil=>intro a b _ e f;exact⟨e,f⟩
 | cons c l ih=>
  intro a b d e f;simp only[fl,ip,aA,j8,bO]at d;have:=ih (10*a+((c.toNat:Int)-48)) (b+1) (by simp only[fl];exact d.2) (by omega) (by rw[Int.pow_succ];omega);simp only[fo,bf];rw[show b+(l.length+1)=b+1+l.length by omega];exact this
theorem DJ(s:ByteArray)(k:Nat)(d:k<=14)(c:fl (s.data.toList.take k)=true):0<=jK (s.data.toList.take k)/\jK (s.data.toList.take k)<100000000000000:=by
 have a:=DI _ c;refine⟨a.1,Int.lt_of_lt_of_le a.2 ?_⟩;have:(10:Int) ^ (s.data.toList.take k).length<=10 ^ 14:=by
  have b:(10:Nat) ^ (s.data.toList.take k).length<=10 ^ 14:=Nat.pow_le_pow_right (by omega) (by simp;omega)
  exact_mod_cast b
 simpa using this
theorem xq(s:ByteArray)(k:Nat)(a:k<s.size)(c:j8 s[k]=false):fl s.data.toList=false:=by
 have b:fl s.data.toList=(fl (s.data.toList.take (k+1)) && fl (s.data.toList.drop (k+1))):=by
  conv=>lhs;rw[<-ir (k+1) s.data.toList]
  simp only[fl,jg]
 rw[b,uR s k a,c];simp
theorem rj(s:ByteArray)(a:0<s.size):s.data.toList[0]?=some s[0]:=by
 rw[aG (by simpa using a)];rfl
theorem OL(s:ByteArray)(e:0<s.size)(f:s[0]=48):(s.toList==[48])=decide (¬1<s.size):=by
 rw[bE];have b:=rj s e;rw[f]at b;have a:s.data.toList.length=s.size:=by simp
 cases d:s.data.toList with
 | nil=>rw[d]at a;simp at a;omega
 | cons c l=>
  rw[d]at b a;simp at b;subst b;cases l with
  | nil=>simp at a;simp;omega
  | cons g l=>simp at a;simp;omega
theorem Cj{s:ByteArray}(b:0<s.size):s.toList.isEmpty=false:=by
 rw[bE,List.isEmpty_eq_false_iff];intro a;have:s.data.toList.length=s.size:=by simp
 rw[a]at this;simp at this;omega
theorem Ci{s:ByteArray}(a:¬0<s.size):s.toList.isEmpty=true:=by
 rw[bE,List.isEmpty_iff];apply bF;have:s.data.toList.length=s.size:=by simp
 omega
theorem jY{c:UInt8}{k:Nat}{d:UInt8}(b:d.toNat=k)(a:¬c=d):¬((c.toNat:Int)=k):=λe=>a (UInt8.toNat.inj (by omega))
def Oe(s:ByteArray)(m:Int)(e:Ending):Prop:=
 ∃(a:Int)(b:Bool),e=.returned (.tuple #[ab a,.bool b])/\Hid (b=dx s m/\0<=a/\a<100000000000000/\(b=true->a=jK s.data.toList))
theorem oq(s:ByteArray)(m:Int)(w:World)(E:s.size<=9223372036854775807)(D:m<=13):am 93 #[af s,ab m] w λe w'=>Oe s m e/\w'=w:=by
 go_enter func93,ntmps93;by_cases g:0<s.size
 ·have n:=Cj g;have A:(s.toList=[])=False:=by simpa using n
  by_cases l:(s.size:Int)<=m
  ·have z:decide (m<(s.size:Int))=false:=by simp;omega
   have i:s[0]=48->(s.toList==[48])=decide (¬1<s.size):=OL s g;by_cases c:s[0]=48/\1<s.size
   ·obtain⟨c,a⟩:=c;have j:(s.toList==[48])=false:=by rw[i c];simp;omega
    have b:Hid (dx s m=false):=by simp[Hid,dx,rj s g,c];omega
    clear i;go_wp2_with fail
    all_goals go_ret2
    all_goals exact⟨⟨0,false,rfl,b.symm,by omega,by omega,by simp⟩,rfl⟩
   ·have b:Hid (dx s m=fl s.data.toList):=by
      simp only[Hid,dx];rw[rj s g];by_cases a:s[0]=48
      ·have:¬1<s.size:=λf=>c ⟨a,f⟩;simp[l];omega
      ·simp[l,a];omega
    have j:(s[0]=48/\(s.toList==[48])=true)\/¬((s[0].toNat:Int)=48):=by
     by_cases a:s[0]=48
     ·have B:¬1<s.size:=λf=>c ⟨a,f⟩;exact ah ⟨a,by rw[i a];simp;omega⟩
     ·exact ai (jY (k:=48) rfl a)
    clear i c;rcases j with⟨a,j⟩|j
    all_goals
     go_wp2_with fail
     go_loop [6,7] (λt p=>∃k:Nat,∃h:Int,k<=s.size/\p=ab k/\t=ab h/\Hid (h=jK (s.data.toList.take k)/\fl (s.data.toList.take k)=true)) (λ_ p=>s.size-(intOf p).toNat)
     case atStart=>exact⟨0,0,aI _,rfl,rfl,by simp[Hid,fl,jK]⟩
     case round=>
      obtain⟨k,h,C,rfl,rfl,d⟩:=hrel;have r:=DJ s k (by omega) d.2;rw[<-d.out.1]at r;obtain⟨F,G⟩:=r;by_cases o:k<s.size
      ·have x:=aq (uR s k o);have y:=aq (G6 s k o);have q:Hid (j8 s[k]=false->false=dx s m):=λf=>by rw[b.out,xq s k o f]
       by_cases d1:48<=(s[k].toNat:Int)
       ·by_cases d2:(s[k].toNat:Int)<=57
        ·go_wp2_with fail
         go_round
         case rel=>exact⟨k+1,10*h+((s[k].toNat:Int)-48),by omega,by go_num,by go_num,by rw[y.out,d.out.1],by rw[x.out,d.out.2];simp[j8,d1,d2]⟩
         case measure=>simp[intOf];omega
        ·go_wp2_with fail
         go_ret2
         exact⟨⟨0,false,rfl,q (by simp[j8,d2]),by omega,by omega,by simp⟩,rfl⟩
       ·go_wp2_with fail
        go_ret2
        exact⟨⟨0,false,rfl,q (by simp[j8];omega),by omega,by omega,by simp⟩,rfl⟩
      ·go_wp2_with fail
       go_ret2
       have u:s.data.toList.take k=s.data.toList:=bu (by simp;omega);refine⟨⟨h,true,rfl,?_,by omega,by omega,λ_=>?_⟩,rfl⟩
       ·rw[b.out,<-u,d.out.2]
       ·rw[d.out.1,u]
  ·have z:m<(s.size:Int):=by omega
   have b:Hid (dx s m=false):=by simp[Hid,dx,l]
   go_wp2_with fail
   all_goals go_ret2
   all_goals exact⟨⟨0,false,rfl,b.symm,by omega,by omega,by simp⟩,rfl⟩
 ·have n:=Ci g;have A:(s.toList=[])=True:=by simpa using n
  have v:s.size=0:=by omega
  have b:Hid (dx s m=false):=by simp[Hid,dx,v]
  clear v;go_wp2_with fail
  all_goals go_ret2
  all_goals exact⟨⟨0,false,rfl,b.symm,by omega,by omega,by simp⟩,rfl⟩
def gi(s:ByteArray):ByteArray:=s.extract 1 s.size
def dI(s:ByteArray):Bool:=
 if s.data.toList[0]?=some 35 then dx (gi s) 2
 else if s.data.toList[0]?=some 36 then dx (gi s) 2
 else if s.data.toList[0]?=some 45 then dx (gi s) 13 && !(jK (gi s).data.toList==0)
 else if s.toList==[95]then true
 else if dx s 13 then true
 else decide (0<s.size) && fJ s.data.toList
def fI(s:ByteArray):Int×Int×ByteArray:=
 if s.data.toList[0]?=some 35 then (3,jK (gi s).data.toList,⟨#[]⟩)
 else if s.data.toList[0]?=some 36 then (5,jK (gi s).data.toList,⟨#[]⟩)
 else if s.data.toList[0]?=some 45 then (1,-jK (gi s).data.toList,⟨#[]⟩)
 else if s.toList==[95]then (6,0,⟨#[]⟩)
 else if dx s 13 then (1,jK s.data.toList,⟨#[]⟩)
 else (2,0,s)
def LY(s:ByteArray)(e:Ending):Prop:=
 ∃(k a:Int)(t:ByteArray)(b:Bool),e=.returned (.tuple #[.agg #[ab k,ab a,af t,ae none 0 0],.bool b])/\Hid (b=dI s/\(b=true->(k,a,t)=fI s)/\t.size<=s.size/\dt k/\dt a)
theorem Eo(s:ByteArray):(gi s).size<=s.size:=by simp[gi]
def Oc(k:Int)(s:ByteArray)(e:Ending):Prop:=
 ∃(a:Int)(b:Bool),e=.returned (.tuple #[.agg #[ab k,ab a,af ⟨#[]⟩,ae none 0 0],.bool b])/\Hid (b=dx s 2/\0<=a/\a<100000000000000/\(b=true->a=jK s.data.toList))
theorem rA(k:Int)(s:ByteArray)(w:World)(c:s.size<=9223372036854775807):am 92 #[ab k,af s] w λe w'=>Oc k s e/\aj w w':=by
 go_enter func92,ntmps92;go_wp2_with (go_at_call 93;refine(oq _ _ _ c (by omega)).mono ?_;rintro e w' ⟨⟨v,b,rfl,a⟩,rfl⟩);exact av (v:=.tuple #[.agg #[ab k,ab v,af ⟨#[]⟩,ae none 0 0],.bool b]) (by simp[results,results92,go_sem]) rfl ⟨⟨v,b,rfl,a⟩,by go_grown⟩
theorem Gh(s:ByteArray)(w:World)(b:s.size<=2048):am 55 #[af s] w λe w'=>e=.returned (af s)/\aj w w':=by
 go_enter func55,ntmps55;go_wp2_with (go_at_call 89;refine(Tryz.stringslite_Clone s w (by omega)).mono ?_;rintro e w' ⟨rfl,a⟩)
 go_ret
 exact⟨rfl,a⟩
theorem Gr(s:ByteArray)(a:0<s.size)(b:j8 s[0]=false)(m:Int):dx s m=false:=by simp[dx,xq s 0 a b]
theorem GZ(s:ByteArray)(a:0<s.size)(c:ol s[0]=false):fJ s.data.toList=false:=by
 have b:fJ s.data.toList=(fJ (s.data.toList.take 1) && fJ (s.data.toList.drop 1)):=by
  conv=>lhs;rw[<-ir 1 s.data.toList]
  simp only[fJ,jg]
 rw[b,vw s 0 a,c];simp
theorem On(s:ByteArray)(d:0<s.size)(b:¬s[0]=95):(s.toList==[95])=false:=by
 rw[bE];have a:=rj s d;cases hl:s.data.toList with
 | nil=>rfl
 | cons c l=>
  rw[hl]at a;simp at a;rw[<-a]at b;simp[b]
def pE(k a:Int)(t:ByteArray):Value:=.agg #[ab k,ab a,af t,ae none 0 0]
theorem dr{a:Int}(b: -100000000000000<=a)(c:a<=100000000000000):dt a:=⟨by omega,by omega⟩
theorem yO{w w':World}{v0 v1 v2 v3:Value}{t:TypeId}(c:Below (w.alloc (.cells #[v0,v1,v2,v3] t)).heap.size (w.alloc (.cells #[v0,v1,v2,v3] t)) w'):(w'.cell? ⟨w.heap.size,0,none⟩=some v0/\w'.cell? ⟨w.heap.size,1,none⟩=some v1/\w'.cell? ⟨w.heap.size,2,none⟩=some v2/\w'.cell? ⟨w.heap.size,3,none⟩=some v3)/\ (w'.frozen? ⟨w.heap.size,0,none⟩=false/\w'.frozen? ⟨w.heap.size,1,none⟩=false/\w'.frozen? ⟨w.heap.size,2,none⟩=false/\w'.frozen? ⟨w.heap.size,3,none⟩=false):=by
 have a:=λo=>c.cell (p:=⟨w.heap.size,o,none⟩) (by simp);have b:=λo=>c.frozen (p:=⟨w.heap.size,o,none⟩) (by simp);exact⟨⟨(a 0).trans (by simp[go_sem]),(a 1).trans (by simp[go_sem]),(a 2).trans (by simp[go_sem]),(a 3).trans (by simp[go_sem])⟩,(b 0).trans (by simp[go_sem]),(b 1).trans (by simp[go_sem]),(b 2).trans (by simp[go_sem]),(b 3).trans (by simp[go_sem])⟩
theorem Dn{w w':World}{o:Obj}(e:Below (w.alloc o).heap.size (w.alloc o) w')(a b c d:Value):aj w ((((w'.setCell ⟨w.heap.size,0,none⟩ a).setCell ⟨w.heap.size,1,none⟩ b).setCell ⟨w.heap.size,2,none⟩ c).setCell ⟨w.heap.size,3,none⟩ d):=by
 have f:aj w w':=((ap _ _).alloc (ak _) _).trans (e.mono (by simp))
 go_grown
theorem Hs(s:ByteArray)(w:World)(y:s.size<=2048):am 63 #[af s] w λe w'=>LY s e/\aj w w':=by
 have D:=Eo s;by_cases g:0<s.size
 ·have p:=Cj g;have u:(s.toList=[])=False:=by simpa using p
  have i:=aq (rj s g);have C:(1:Int)<=s.size:=by omega
  by_cases j:s[0]=95
  ·have c:Hid (dI s=(s.toList==[95])/\((s.toList==[95])=true->fI s=(6,0,⟨#[]⟩))):=by
     simp only[Hid,dI,fI,i.out,j,Gr s g (by simp[j8,j]) 13,GZ s g (by simp[ol,j])];cases h:(s.toList==[95])<;>simp
   go_enter func63,ntmps63;go_wp2_with fail;exact av (v:=.tuple #[pE 6 0 ⟨#[]⟩,.bool (s.toList==[95])]) (by simp[results,results63,go_sem,pE]) rfl ⟨⟨6,0,⟨#[]⟩,_,rfl,c.1.symm,λh=>(c.2 h).symm,aI _,dr (by omega) (by omega),dr (by omega) (by omega)⟩,by go_grown⟩
  ·have d1:=jY (k:=95) (d:=95) rfl j;by_cases q:s[0]=35
   ·have c:Hid (dI s=dx (gi s) 2/\fI s=(3,jK (gi s).data.toList,⟨#[]⟩)):=by
      simp[Hid,dI,fI,i.out,q]
    go_enter func63,ntmps63;go_wp2_with (go_at_call 92;refine(rA 3 (gi s) _ (by omega)).mono ?_;rintro e w' ⟨⟨v,b,rfl,a⟩,f⟩;obtain⟨⟨l,m,n,o⟩,f0,f1,f2,f3⟩:=yO f;have HB:=aq (Dn f);clear f);exact av (v:=.tuple #[pE 3 v ⟨#[]⟩,.bool b]) (by simp[results,results63,go_sem,pE,l,m,n,o]) rfl ⟨⟨3,v,⟨#[]⟩,_,rfl,by rw[c.out.1,a.out.1],λh=>by rw[c.out.2,a.out.2.2.2 h],aI _,dr (by omega) (by omega),dr (by have:=a.2.1;omega) (by have:=a.2.2.1;omega)⟩,HB _ _ _ _⟩
   ·have d2:=jY (k:=35) (d:=35) rfl q;by_cases r:s[0]=36
    ·have c:Hid (dI s=dx (gi s) 2/\fI s=(5,jK (gi s).data.toList,⟨#[]⟩)):=by
       simp[Hid,dI,fI,i.out,r]
     go_enter func63,ntmps63;go_wp2_with (go_at_call 92;refine(rA 5 (gi s) _ (by omega)).mono ?_;rintro e w' ⟨⟨v,b,rfl,a⟩,f⟩;obtain⟨⟨l,m,n,o⟩,f0,f1,f2,f3⟩:=yO f;have HB:=aq (Dn f);clear f);exact av (v:=.tuple #[pE 5 v ⟨#[]⟩,.bool b]) (by simp[results,results63,go_sem,pE,l,m,n,o]) rfl ⟨⟨5,v,⟨#[]⟩,_,rfl,by rw[c.out.1,a.out.1],λh=>by rw[c.out.2,a.out.2.2.2 h],aI _,dr (by omega) (by omega),dr (by have:=a.2.1;omega) (by have:=a.2.2.1;omega)⟩,HB _ _ _ _⟩
    ·have d3:=jY (k:=36) (d:=36) rfl r;by_cases t:s[0]=45
     ·have c:Hid (dI s=(dx (gi s) 13 && !(jK (gi s).data.toList==0))/\fI s=(1,-jK (gi s).data.toList,⟨#[]⟩)):=by
        simp[Hid,dI,fI,i.out,t]
      go_enter func63,ntmps63;go_wp2_with (go_at_call 93;refine(oq (gi s) 13 _ (by omega) (by omega)).mono ?_;rintro e w' ⟨⟨v,b,rfl,a⟩,rfl⟩;obtain⟨A,B⟩:=(⟨a.2.1,a.2.2.1⟩:0<=v/\v<100000000000000);cases b)
      ·exact av (v:=.tuple #[pE 1 (-v) ⟨#[]⟩,.bool false]) (by simp[results,results63,go_sem,pE]) rfl ⟨⟨1,-v,⟨#[]⟩,_,rfl,by rw[c.out.1,<-a.out.1];rfl,by simp,aI _,dr (by omega) (by omega),dr (by omega) (by omega)⟩,by go_grown⟩
      ·exact av (v:=.tuple #[pE 1 (-v) ⟨#[]⟩,.bool (v !=0)]) (by simp[results,results63,go_sem,pE]) rfl ⟨⟨1,-v,⟨#[]⟩,_,rfl,by rw[c.out.1,<-a.out.1,<-a.out.2.2.2 (by trivial)];simp[bne],λ_=>by rw[c.out.2,a.out.2.2.2 (by trivial)],aI _,dr (by omega) (by omega),dr (by omega) (by omega)⟩,by go_grown⟩
     ·have d4:=jY (k:=45) (d:=45) rfl t;have c:Hid (dI s=(dx s 13 || fJ s.data.toList)/\(fI s=if dx s 13=true then (1,jK s.data.toList,⟨#[]⟩)else (2,0,s))):=by
       simp only[Hid,dI,fI,i.out,On s g j];simp[q,r,t];cases dx s 13<;>simp[g]
      go_enter func63,ntmps63
      go_wp2_with (first
       | (go_at_call 93;refine(oq s 13 _ (by omega) (by omega)).mono ?_;rintro e w' ⟨⟨v,b,rfl,a⟩,rfl⟩;obtain⟨A,B⟩:=(⟨a.2.1,a.2.2.1⟩:0<=v/\v<100000000000000);cases b)
       | (go_at_call 55;refine(Gh s _ y).mono ?_;rintro e E ⟨rfl,f⟩;obtain⟨⟨l,m,n,o⟩,f0,f1,f2,f3⟩:=yO f;have HB:=aq (Dn f);clear f)
       | (go_at_call 84;refine(s9 s _ (by omega)).mono ?_;rintro e F ⟨rfl,rfl⟩))
      ·exact av (v:=.tuple #[pE 2 0 s,.bool (fJ s.data.toList)]) (by simp[results,results63,go_sem,pE,l,m,n,o]) rfl ⟨⟨2,0,s,_,rfl,by rw[c.out.1,<-a.out.1];rfl,λ_=>by rw[c.out.2,<-a.out.1];rfl,ak _,dr (by omega) (by omega),dr (by omega) (by omega)⟩,HB _ _ _ _⟩
      ·exact av (v:=.tuple #[pE 1 v ⟨#[]⟩,.bool true]) (by simp[results,results63,go_sem,pE]) rfl ⟨⟨1,v,⟨#[]⟩,_,rfl,by rw[c.out.1,<-a.out.1];rfl,λ_=>by rw[c.out.2,<-a.out.1,a.out.2.2.2 (by trivial)];rfl,aI _,dr (by omega) (by omega),dr (by omega) (by omega)⟩,by go_grown⟩
 ·have p:=Ci g;have u:(s.toList=[])=True:=by simpa using p
  have c:Hid (dI s=false):=by
   have z:s.size=0:=by omega
   have x:s.data.toList=[]:=by rw[<-bE];simpa using p
   simp[Hid,dI,bE,dx,x,z]
  go_enter func63,ntmps63;go_wp2_with fail;exact av (v:=.tuple #[pE 0 0 ⟨#[]⟩,.bool false]) (by simp[results,results63,go_sem,pE]) rfl ⟨⟨0,0,⟨#[]⟩,_,rfl,c.symm,by simp,aI _,dr (by omega) (by omega),dr (by omega) (by omega)⟩,by go_grown⟩
def F8(c:UInt8):Bool:=c==32
def lQ(c:UInt8):Bool:=c==32 || c==40 || c==41
def dO(p:UInt8->Bool)(s:ByteArray)(i:Nat):Nat:=i+((s.data.toList.drop i).takeWhile p).length
theorem zk(s:ByteArray)(k:Nat)(a:k<s.size):s.data.toList.drop k=s[k]::s.data.toList.drop (k+1):=by
 rw[eA (by simpa using a)];rfl
theorem oZ{p:UInt8->Bool}{s:ByteArray}{k:Nat}(a:k<s.size)(b:p s[k]=true):dO p s (k+1)=dO p s k:=by
 unfold dO;rw[zk s k a,List.takeWhile_cons,if_pos b,bf];omega
theorem mE{p:UInt8->Bool}{s:ByteArray}{k:Nat}(a:k<s.size)(b:p s[k]=false):dO p s k=k:=by
 unfold dO;rw[zk s k a,List.takeWhile_cons,if_neg (by simp[b])];rfl
theorem Ck{p:UInt8->Bool}{s:ByteArray}{k:Nat}(a:¬k<s.size):dO p s k=k:=by
 unfold dO;rw[pn (by simp;omega)];rfl
theorem uj(p:UInt8->Bool)(s:ByteArray)(k:Nat):k<=dO p s k:=gT _ _
theorem FG(p:UInt8->Bool)(s:ByteArray)(k:Nat)(a:k<=s.size):dO p s k<=s.size:=by
 unfold dO;have b:=(List.takeWhile_sublist (l:=s.data.toList.drop k) p).length_le;have c:(s.data.toList.drop k).length=s.size-k:=by simp
 omega
def dl(s:ByteArray)(i:Nat):Nat:=dO F8 s i
def dD(s:ByteArray)(i:Nat):Nat:=if dO (λc=> !lQ c) s (dl s i)=dl s i/\dl s i<s.size then dl s i+1 else dO (λc=> !lQ c) s (dl s i)
theorem lm(s:ByteArray)(i:Nat):i<=dl s i:=uj _ _ _
theorem CH(s:ByteArray)(i:Nat)(a:i<=s.size):dl s i<=s.size:=FG _ _ _ a
theorem CI(s:ByteArray)(i:Nat):dl s i<=dD s i:=by
 unfold dD;have:=uj (λc=> !lQ c) s (dl s i);split<;>omega
theorem CJ(s:ByteArray)(i:Nat)(a:i<=s.size):dD s i<=s.size:=by
 unfold dD;have:=FG (λc=> !lQ c) s (dl s i) (CH s i a);split<;>omega
theorem rT(s:ByteArray)(i:Nat)(a:dl s i<s.size):dl s i<dD s i:=by
 unfold dD;have:=uj (λc=> !lQ c) s (dl s i);split<;>omega
theorem IZ(s:ByteArray)(i:Nat)(a:i<=s.size)(b:¬dl s i<s.size):dl s i=s.size/\dD s i=s.size:=by
 have c:=CH s i a;have d:=CJ s i a;have e:=CI s i;omega
def Rd(r:Nat)(s:ByteArray)(b e:Nat)(w:World):Prop:=w.heap[r]?=some (.cells #[af s,ab b,ab e] 70)
theorem Rd.cells{r:Nat}{s:ByteArray}{b e:Nat}{w:World}(a:Rd r s b e w):(w.cell? ⟨r,0,none⟩=some (af s)/\w.cell? ⟨r,1,none⟩=some (ab b)/\w.cell? ⟨r,2,none⟩=some (ab e))/\w.frozen? ⟨r,1,none⟩=false/\w.frozen? ⟨r,2,none⟩=false:=by
 unfold Rd at a;exact⟨⟨by simp[World.cell?,a],by simp[World.cell?,a],by simp[World.cell?,a]⟩,by simp[World.frozen?,a],by simp[World.frozen?,a]⟩
theorem Rd.set1{r:Nat}{s:ByteArray}{b e:Nat}{w:World}(a:Rd r s b e w)(k:Nat):Rd r s k e (w.setCell ⟨r,1,none⟩ (ab k)):=by
 unfold Rd at*;simp[World.setCell,bN,a]
theorem Rd.set2{r:Nat}{s:ByteArray}{b e:Nat}{w:World}(a:Rd r s b e w)(k:Nat):Rd r s b k (w.setCell ⟨r,2,none⟩ (ab k)):=by
 unfold Rd at*;simp[World.setCell,bN,a]
theorem Rd.drew{r:Nat}{s:ByteArray}{b e:Nat}{w:World}(a:Rd r s b e w)(n:Nat):Rd r s b e (w.drewN n):=a
theorem Rd.lt{r:Nat}{s:ByteArray}{b e:Nat}{w:World}(a:Rd r s b e w):r<w.heap.size:=(aF.1 a).1
theorem mr(w:World)(r o:Nat)(v:Value):w.grownBy (w.setCell ⟨r,o,none⟩ v) (some r):=
 ⟨rfl,rfl,rfl,by simp[World.setCell],λk _ b=>eV w _ v k (λa=>b (by rw[a]))⟩
theorem eJ(w:World)(n:Nat)(q:Option Nat):w.grownBy (w.drewN n) q:=⟨rfl,rfl,rfl,ak _,λ_ _ _=>rfl⟩
theorem bW{w w1 w2:World}{q:Option Nat}(a:w.grownBy w1 q)(k:w1.grownBy w2 q):w.grownBy w2 q:=
 ⟨k.os.trans a.os,k.tape.trans a.tape,k.output.trans a.output,az a.size k.size,λd b c=>(k.block d (aR b a.size) c).trans (a.block d b c)⟩
theorem JT(c:UInt8)(w:World):am 61 #[.int .u8 c.toNat] w λe w'=>e=.returned (.bool (lQ c))/\w'=w:=by
 by_cases a:c=32
 ·subst a;go_enter func61,ntmps61;go_wp2_with fail
  all_goals go_ret
  all_goals exact⟨rfl,rfl⟩
 ·have d1:=jY (k:=32) (d:=32) rfl a;by_cases b:c=40
  ·subst b;go_enter func61,ntmps61;go_wp2_with fail
   all_goals go_ret
   all_goals exact⟨rfl,rfl⟩
  ·have d2:=jY (k:=40) (d:=40) rfl b;by_cases f:c=41
   ·subst f;go_enter func61,ntmps61;go_wp2_with fail
    all_goals go_ret
    all_goals exact⟨rfl,rfl⟩
   ·have d3:=jY (k:=41) (d:=41) rfl f;go_enter func61,ntmps61;go_wp2_with fail
    all_goals go_ret
    all_goals exact⟨bS (by rw[show lQ c=false by simp[lQ,a,b,f]];simp;omega),rfl⟩
theorem LJ(r:Nat)(s:ByteArray)(b e:Nat)(w:World)(a:Rd r s b e w)(h:b<=e)(j:e<=s.size):am 29 #[aB r] w λc w'=>c=.returned (af (s.extract b e))/\∃n,w'=w.drewN n:=by
 obtain⟨⟨d,f,g⟩,f1,f2⟩:=a.cells;clear a;have i:(b:Int)<=e:=by omega
 have k:(e:Int)<=s.size:=by omega
 go_enter func29,ntmps29;go_wp2_with fail
 go_quiet (fail)
 go_wp2_with fail
 go_ret
 exact⟨by simp,_,rfl⟩
theorem qq{w w1 w2:World}{q:Option Nat}(a:w.grownBy w1 q)(c:w2.os=w1.os)(d:w2.tape=w1.tape)(e:w2.output=w1.output)(b:w2.heap=w1.heap):w.grownBy w2 q:=
 ⟨c.trans a.os,d.trans a.tape,e.trans a.output,by rw[b];exact a.size,λk f g=>by rw[b];exact a.block k f g⟩
theorem E9(c:UInt8)(w:World)(b:Bool)(a:lQ c=b):am 61 #[.int .u8 c.toNat] w λe w'=>e=.returned (.bool b)/\w'=w:=by
 rw[<-a];exact JT c w
theorem rv(r:Nat)(s:ByteArray)(F g:Nat)(w:World)(e:Rd r s F g w)(J:g<=s.size)(V:s.size<=2048):am 27 #[aB r] w λG w'=>G=.returned (.tuple #[])/\Hid (Rd r s (dl s g) (dD s g) w'/\w.grownBy w' (some r)):=by
 obtain⟨⟨B,v,x⟩,f1,f2⟩:=e.cells;have z:=aq (⟨e.set1 g,mr w r 1 (ab g)⟩:_/\_);clear e;go_enter func27,ntmps27;go_wp2_with fail;go_loopw [] (λwr=>∃k:Nat,k<=s.size/\Hid (Rd r s k g wr/\w.grownBy wr (some r)/\dO F8 s k=dl s g)/\True) (λwr=>s.size-(intOf ((wr.cell? ⟨r,1,none⟩).getD undef)).toNat)
 case atStart=>exact⟨g,J,⟨z.1,z.2,rfl⟩,trivial⟩
 case round=>
  obtain⟨k,K,j,_⟩:=hrel;obtain⟨⟨B,v,x⟩,f1,f2⟩:=j.out.1.cells;by_cases h:∃e:k<s.size,s[k]=32
  ·obtain⟨b,H⟩:=h;have L:(k:Int)<s.size:=by omega
   have C:decide ((k:Int)<s.size)=true:=by simp;omega
   have u:=aq (oZ (p:=F8) b (by simp[F8,H]));go_wp2_with fail
   go_quiet (fail)
   go_wp2_with fail;go_roundw
   case rel=>exact⟨k+1,by omega,⟨(j.1.drew nq).set1 (k+1),bW j.2.1 (bW (eJ wr nq _) (mr _ _ _ _)),by rw[u.out];exact j.2.2⟩,trivial⟩
   case measure=>simp[go_sem,v,intOf];omega
  ·have i:Hid (dl s g=k):=by
     rw[<-j.out.2.2];by_cases b:k<s.size
     ·exact mE (p:=F8) b (by simp[F8];exact λe=>h ⟨b,e⟩)
     ·exact Ck (p:=F8) b
   have I:((¬k<s.size)/\decide ((k:Int)<s.size)=false)\/((k:Int)<s.size/\decide ((k:Int)<s.size)=true/\∃e:k<s.size,((s[k].toNat:Int)==32)=false):=by
    by_cases b:k<s.size
    ·have S:=jY (k:=32) (d:=32) rfl (λe=>h ⟨b,e⟩);exact ai ⟨by omega,by simp;omega,b,by simp;omega⟩
    ·exact ah ⟨b,by simp;omega⟩
   clear h;rcases I with⟨b,C⟩|⟨L,C,b,T⟩
   all_goals
    go_wp2_with fail
    go_quiet (fail)
    have A:=aq (show Rd r s k k ((wr.drewN nq).setCell ⟨r,2,none⟩ (ab k))/\w.grownBy ((wr.drewN nq).setCell ⟨r,2,none⟩ (ab k)) (some r)from⟨(j.1.drew nq).set2 k,bW j.2.1 (bW (eJ wr nq _) (mr _ _ _ _))⟩);go_wp2_with fail;go_loopw [] (λq=>∃a:Nat,a<=s.size/\k<=a/\Hid (Rd r s k a q/\w.grownBy q (some r)/\dO (λc=> !lQ c) s a=dO (λc=> !lQ c) s k)/\True) (λq=>s.size-(intOf ((q.cell? ⟨r,2,none⟩).getD undef)).toNat)
    case atStart=>exact⟨k,K,ak _,⟨A.1,A.2,rfl⟩,trivial⟩
    case round=>
     obtain⟨a,U,D,f,_⟩:=hrel;obtain⟨⟨B,v,x⟩,f1,f2⟩:=f.out.1.cells;by_cases h:∃e:a<s.size,lQ s[a]=false
     ·obtain⟨n,o⟩:=h;have y:k<s.size:=Nat.lt_of_le_of_lt D n
      first|exact absurd y b|skip
      all_goals
       have R:(a:Int)<s.size:=by omega
       have E:decide ((a:Int)<s.size)=true:=by simp;omega
       have u:=aq (oZ (p:=λc=> !lQ c) n (by simp[o]));go_wp2_with fail
       go_quiet ((go_at_call 61;exact Calls.quiet_of_same (E9 s[a] _ _ o)))
       go_wp2_with fail;go_roundw
       case rel=>exact⟨a+1,by omega,by omega,⟨(f.1.drew _).set2 (a+1),bW f.2.1 (bW (eJ _ _ _) (mr _ _ _ _)),by rw[u.out];exact f.2.2⟩,trivial⟩
       case measure=>simp[go_sem,x,intOf];omega
     ·have t:Hid (dO (λc=> !lQ c) s k=a):=by
        rw[<-f.out.2.2];by_cases b:a<s.size
        ·exact mE (p:=λc=> !lQ c) b (by simp;cases e:lQ s[a];exact absurd ⟨b,e⟩ h;rfl)
        ·exact Ck (p:=λc=> !lQ c) b
      have Q:((¬a<s.size)/\decide ((a:Int)<s.size)=false)\/((a:Int)<s.size/\decide ((a:Int)<s.size)=true/\∃e:a<s.size,lQ s[a]=true):=by
       by_cases b:a<s.size
       ·exact ai ⟨by omega,by simp;omega,b,by cases e:lQ s[a];exact absurd ⟨b,e⟩ h;rfl⟩
       ·exact ah ⟨b,by simp;omega⟩
      clear h;rcases Q with⟨n,E⟩|⟨R,E,n,o⟩
      ·have m:Hid (dD s g=a):=by
         simp only[Hid,dD,i.out,t.out];rw[if_neg (by omega)]
       go_wp2_with fail
       go_quiet (fail)
       go_wp2_with fail;by_cases l:a=k
       ·first|exact absurd (show a<s.size by omega) n|skip
        all_goals
         subst l
         go_quiet (fail)
         go_wp2_with fail
         go_end0
         refine⟨rfl,?_,qq f.2.1 rfl rfl rfl rfl⟩;rw[i.out,m.out];exact f.1
       ·first|exact absurd (show a=k by omega) l|skip
        all_goals
         have M:((a:Int)==k)=false:=by simp;omega
         have N:(a==k)=false:=by simp;omega
         have O:decide (a=k)=false:=by simp;omega
         have P:decide ((a:Int)=k)=false:=by simp;omega
         clear l
         go_quiet (fail)
         go_wp2_with fail
         go_end0
         refine⟨rfl,?_,qq f.2.1 rfl rfl rfl rfl⟩;rw[i.out,m.out];exact f.1
      ·have y:k<s.size:=Nat.lt_of_le_of_lt D n
       first|exact absurd y b|skip
       all_goals
        go_wp2_with fail
        go_quiet ((go_at_call 61;exact Calls.quiet_of_same (E9 s[a] _ _ o)))
        go_wp2_with fail;by_cases l:a=k
        ·have m:Hid (dD s g=a+1):=by
           simp only[Hid,dD,i.out,t.out];rw[if_pos ⟨l,by omega⟩];omega
         subst l
         go_quiet (fail)
         go_wp2_with fail
         go_end0
         refine⟨rfl,?_,bW f.2.1 (bW (eJ _ _ _) (mr _ _ _ _))⟩;rw[i.out,m.out];exact Rd.set2 f.1 (a+1)
        ·have m:Hid (dD s g=a):=by
           simp only[Hid,dD,i.out,t.out];rw[if_neg (by omega)]
         have M:((a:Int)==k)=false:=by simp;omega
         have N:(a==k)=false:=by simp;omega
         have O:decide (a=k)=false:=by simp;omega
         have P:decide ((a:Int)=k)=false:=by simp;omega
         clear l
         go_quiet (fail)
         go_wp2_with fail
         go_end0
         refine⟨rfl,?_,qq f.2.1 rfl rfl rfl rfl⟩;rw[i.out,m.out];exact f.1
abbrev Tok:Type:=Nat×ByteArray
def wK(x:ByteArray):Bool:=x.toList==[40]
def vh(x:ByteArray):Bool:=x.toList==[41]
theorem Fi{x:ByteArray}{c:UInt8}(a:(x.toList==[c])=true):x.data.toList=[c]/\x.size=1:=by
 rw[bE]at a;have b:x.data.toList=[c]:=by simpa using a
 refine⟨b,?_⟩;have:x.data.toList.length=x.size:=by simp
 rw[b]at this;simpa using this.symm
theorem vt{x:ByteArray}(a:vh x=true):dI x=false/\wK x=false:=by
 obtain⟨b,c⟩:=Fi a;simp[dI,wK,dx,bE,b,fl,j8,fJ,ol]
theorem GV{x:ByteArray}(a:wK x=true):dI x=false/\vh x=false:=by
 obtain⟨b,c⟩:=Fi a;simp[dI,vh,dx,bE,b,fl,j8,fJ,ol]
def yG{a:Type}(f:a->List Tok->List Tok->Prop):List a->List Tok->List Tok->Prop
 | [],ts,r=>ts=r
 | x::l,ts,r=>∃m,f x ts m/\yG f l m r
def Is:(n:Nat)->Tm n->List Tok->List Tok->Prop
 | 0,_,_,_=>False
 | n+1,x,ts,r=>∃t a,ts=t::a/\((wK t.2=false/\dI t.2=true/\x.1=fI t.2/\x.2.2=[]/\r=a)\/
    (wK t.2=true/\x.1=(4,0,⟨#[]⟩)/\∃c,yG (Is n) x.2.2 a (c::r)/\vh c.2=true))
theorem yG.snoc{b:Type}{f:b->List Tok->List Tok->Prop}{x:b}{r:List Tok}:{l:List b}->{a m:List Tok}->yG f l a m->f x m r->yG f (l++ [x]) a r
 | [],a,m,h,hx=>by
  have e:a=m:=h;subst e;exact⟨r,hx,rfl⟩
 | y::l,a,m,h,hx=>by
  obtain⟨q,c,d⟩:=h;exact⟨q,c,d.snoc hx⟩
theorem Is.head{n:Nat}{x:Tm n}{c r:List Tok}(a:Is n x c r):∃t b,c=t::b/\vh t.2=false:=by
 cases n with
 | zero=>exact a.elim
 | succ n=>
  obtain⟨t,b,rfl,a⟩:=a;refine⟨t,b,rfl,?_⟩;cases hc:vh t.2
  ·rfl
  ·have:=vt hc;rcases a with a|a
   ·rw[this.1]at a;exact absurd a.2.1 (by simp)
   ·rw[this.2]at a;exact absurd a.1 (by simp)
theorem yG.one{n m:Nat}(ih:∀(x:Tm n)(y:Tm m)(d r f:List Tok),Is n x d r->Is m y d f->ay n x m y=true/\r=f):(p:List (Tm n))->(q:List (Tm m))->(d:List Tok)->(c i:Tok)->(r f:List Tok)->vh c.2=true->vh i.2=true->yG (Is n) p d (c::r)->yG (Is m) q d (i::f)->aC (λa b=>ay n a m b) p q=true/\r=f
 | [],[],d,c,i,r,f,hc,hc',h,h'=>by
  have j:d=c::r:=h;have g:d=i::f:=h';rw[j]at g;injection g with _ e;exact⟨rfl,e⟩
 | [],y::q,d,c,i,r,f,hc,hc',h,h'=>by
  have j:d=c::r:=h;obtain⟨A,k,_⟩:=h';obtain⟨t,C,g,l⟩:=k.head;rw[j]at g;injection g with e _;rw[<-e,hc]at l;exact absurd l (by simp)
 | x::p,[],d,c,i,r,f,hc,hc',h,h'=>by
  have j:d=i::f:=h';obtain⟨A,k,_⟩:=h;obtain⟨t,C,g,l⟩:=k.head;rw[j]at g;injection g with e _;rw[<-e,hc']at l;exact absurd l (by simp)
 | x::p,y::q,d,c,i,r,f,hc,hc',h,h'=>by
  obtain⟨o,k,v⟩:=h;obtain⟨B,w,z⟩:=h';obtain⟨j,g⟩:=ih x y d o B k w;subst g;obtain⟨s,u⟩:=yG.one ih p q o c i r f hc hc' v z;exact⟨by simp only[aC];rw[j,s];rfl,u⟩
theorem Is.one:(n:Nat)->(m:Nat)->(x:Tm n)->(y:Tm m)->(f r b:List Tok)->Is n x f r->Is m y f b->ay n x m y=true/\r=b
 | 0,_,_,_,_,_,_,a,_=>a.elim
 | _+1,0,_,_,_,_,_,_,a=>a.elim
 | n+1,m+1,x,y,f,r,b,a,g=>by
  obtain⟨t,z,rfl,a⟩:=a;obtain⟨t2,A,e,g⟩:=g;injection e with h i;subst h i;rcases a with⟨o,_,l,j,v⟩|⟨o,l,c,j,s⟩
  ·rcases g with⟨_,_,p,k,w⟩|⟨d,_⟩
   ·refine⟨?_,v.trans w.symm⟩;simp only[ay,l,p,j,k,aC];simp
   ·rw[o]at d;exact absurd d (by simp)
  ·rcases g with⟨d,_⟩|⟨_,p,q,k,u⟩
   ·rw[o]at d;exact absurd d (by simp)
   ·obtain⟨h,i⟩:=yG.one (λx y f r b=>Is.one n m x y f r b) x.2.2 y.2.2 z c q r b s u j k;refine⟨?_,i⟩;simp only[ay,l,p,h];simp
theorem t8:(n:Nat)->(x:Tm n)->(a r:List Tok)->Is n x a r->(ax n x).length+r.length<=a.length
 | 0,_,_,_,b=>b.elim
 | n+1,x,a,r,b=>by
  have key:∀(l:List (Tm n))(a r:List Tok),yG (Is n) l a r->(l.flatMap λy=>ax n y).length+r.length<=a.length:=by
   intro l
   induction l with
   | nil=>intro a r b;have f:a=r:=b;subst f;simp
   | cons y l ih=>
    intro a r b;obtain⟨e,g,h⟩:=b;have:=t8 n y a e g;have:=ih e r h;simp only[bz,bk];omega
  obtain⟨t,k,rfl,b⟩:=b;simp only[ax,bf];rcases b with⟨o,_,j,d,i⟩|⟨o,j,c,d,m⟩
  ·rw[d,i];simp;omega
  ·have:=key x.2.2 k (c::r) d;simp only[bf]at this;omega
def ij(L:Nat):List Tok->Nat->Option Nat
 | [],0=>none
 | [],_+1=>some L
 | t::_,0=>some t.1
 | t::ts,d+1=>if wK t.2 then ij L ts (d+2)else if vh t.2 then ij L ts d else if dI t.2 then ij L ts (d+1)else some t.1
def zn(L:Nat):List Tok->Nat->Option Nat
 | [],_=>some L
 | t::ts,d=>if wK t.2 then ij L ts (d+1)else if dI t.2 then ij L ts d else some t.1
def KQ(L:Nat):List Tok->Nat
 | []=>L
 | t::_=>t.1
theorem vU(L:Nat)(a:List Tok)(d:Nat)(b:∀t c,a=t::c->vh t.2=false):ij L a (d+1)=zn L a (d+1):=by
 cases a with
 | nil=>rfl
 | cons t a=>simp only[ij,zn];rw[b t a rfl];simp
theorem vT(L:Nat)(t:Tok)(b:List Tok)(d:Nat)(a:vh t.2=true):ij L (t::b) (d+1)=ij L b d:=by
 simp only[ij];rw[(vt a).2,a];simp
theorem yf{c d:Type}(f:c->d->Bool):(p:List c)->(q:List d)->aC f p q=true->p.length=q.length
 | [],[],_=>rfl
 | [],_::_,h=>by simp[aC]at h
 | _::_,[],h=>by simp[aC]at h
 | a::p,b::q,h=>by
  simp only[aC,aA]at h;simp[yf f p q h.2]
theorem ME{k b f g:Int}{s e:ByteArray}{l d c i:Nat}{a h:Option Addr}(j:k=b)(m:f=g)(n:s=e)(o:l=d):cg ((k,f,s),(a,l,c))=cg ((b,g,e),(h,d,i)):=by
 subst j m n o;rfl
theorem tm:(n m:Nat)->(x:Tm n)->(y:Tm m)->ay n x m y=true->bI n x=bI m y/\fA n x=fA m y/\sz n x=sz m y
 | 0,_,_,_,c=>by simp[ay]at c
 | _+1,0,_,_,c=>by simp[ay]at c
 | n+1,m+1,x,y,c=>by
  have key:∀(p:List (Tm n))(q:List (Tm m)),aC (λa b=>ay n a m b) p q=true->
    (p.all λy=>bI n y)=(q.all λy=>bI m y)/\(∀a,p.foldl (λm y=>max m (fA n y)) a=q.foldl (λk y=>max k (fA m y)) a)/\(p.map λy=>1+sz n y).sum=(q.map λy=>1+sz m y).sum:=by
   intro p
   induction p with
   | nil=>
    intro q c;cases q with
    | nil=>simp
    | cons b q=>simp[aC]at c
   | cons a p ih=>
    intro q c;cases q with
    | nil=>simp[aC]at c
    | cons b q=>
     simp only[aC,aA]at c;obtain⟨j,l,o⟩:=tm n m a b c.1;obtain⟨e,f,g⟩:=ih q c.2;refine⟨by simp only[ip,j,e],λv=>?_,by simp only[aM,bA,o,g]⟩;simp only[fo,l];exact f _
  simp only[ay,aA,cm]at c;obtain⟨⟨⟨d,r⟩,h⟩,i⟩:=c;obtain⟨e,f,g⟩:=key _ _ i;have t:=yf _ _ _ i;have u:x.1.2.2=y.1.2.2:=by
   rw[bE,bE]at h;exact jc (iZ.1 h)
  refine⟨?_,?_,?_⟩
  ·have s:cg (bw n x)=cg (bw m y):=ME d r u t;simp only[bI,s,d,e]
  ·simp only[fA,d,f]
  ·simp only[sz,d,g]
theorem Ic(n m:Nat)(x:Tm n)(y:Tm m)(a:ay n x m y=true):bv n x=bv m y:=by
 obtain⟨b,c,d⟩:=tm n m x y a;rw[<-gj,<-gj];simp only[wV,b,c,d]
def rQ:Nat->ByteArray->Nat->List Tok
 | 0,_,_=> []
 | f+1,s,i=>if dl s i<s.size then (dl s i,s.extract (dl s i) (dD s i))::rQ f s (dD s i)else []
def ex(s:ByteArray)(i:Nat):List Tok:=rQ (s.size-i) s i
theorem nC(s:ByteArray):(f g i:Nat)->s.size-i<=f->s.size-i<=g->rQ f s i=rQ g s i
 | 0,0,_,_,_=>rfl
 | 0,g+1,i,h,_=>by
  have:=lm s i;simp only[rQ];rw[if_neg (by omega)]
 | f+1,0,i,_,h=>by
  have:=lm s i;simp only[rQ];rw[if_neg (by omega)]
 | f+1,g+1,i,h,h'=>by
  simp only[rQ];by_cases a:dl s i<s.size
  ·rw[if_pos a,if_pos a];have b:=rT s i a;have c:=lm s i;rw[nC s f g (dD s i) (by omega) (by omega)]
  ·rw[if_neg a,if_neg a]
theorem kE(s:ByteArray)(i:Nat)(a:dl s i<s.size):ex s i=(dl s i,s.extract (dl s i) (dD s i))::ex s (dD s i):=by
 have b:=rT s i a;have c:=lm s i;unfold ex;rw[nC s (s.size-i) (s.size-i+1) i (by omega) (by omega)];simp only[rQ];rw[if_pos a,nC s (s.size-i) (s.size-dD s i) (dD s i) (by omega) (by omega)]
theorem mH(s:ByteArray)(i:Nat)(a:¬dl s i<s.size):ex s i=[]:=by
 unfold ex;rw[nC s (s.size-i) (s.size-i+1) i (by omega) (by omega)];simp only[rQ];rw[if_neg a]
theorem lK(s:ByteArray):(f i:Nat)->s.size-i<=f->(ex s i).length<=s.size-i
 | 0,i,h=>by
  have:=lm s i;rw[mH s i (by omega)];simp
 | f+1,i,h=>by
  by_cases a:dl s i<s.size
  ·have b:=rT s i a;have c:=lm s i;rw[kE s i a];have:=lK s f (dD s i) (by omega);simp only[bf];omega
  ·rw[mH s i a];simp
def At(s:ByteArray)(b e:Nat)(a:List Tok):Prop:=
 b<=e/\e<=s.size/\((b=s.size/\a=[])\/(b<e/\a=(b,s.extract b e)::ex s e))
theorem At.next{s:ByteArray}{i:Nat}(b:i<=s.size):At s (dl s i) (dD s i) (ex s i):=by
 refine⟨CI s i,CJ s i b,?_⟩;by_cases a:dl s i<s.size
 ·exact ai ⟨rT s i a,kE s i a⟩
 ·exact ah ⟨(IZ s i b a).1,mH s i a⟩
theorem At.pos{s:ByteArray}{b e:Nat}{a:List Tok}(c:At s b e a):KQ s.size a=b:=by
 rcases c.2.2 with⟨d,rfl⟩|⟨_,rfl⟩
 ·exact d.symm
 ·rfl
theorem At.nil{s:ByteArray}{b e:Nat}(a:At s b e []):(s.extract b e).toList=[]:=by
 rcases a.2.2 with⟨d,_⟩|⟨_,c⟩
 ·rw[bE];apply bF;have:=a.2.1;simp;omega
 ·exact absurd c (by simp)
theorem At.cons{s:ByteArray}{b e:Nat}{t:Tok}{d:List Tok}(c:At s b e (t::d)):t=(b,s.extract b e)/\d=ex s e/\0<(s.extract b e).size:=by
 rcases c.2.2 with⟨_,a⟩|⟨h,a⟩
 ·exact absurd a (by simp)
 ·injection a with f g;refine⟨f,g,?_⟩;have:=c.2.1;simp;omega
-- Sign by sign:what a sign does to the words ahead.
theorem Lp{s:ByteArray}{i:Nat}(d:i<s.size)(e:s[i]=32):ex s i=ex s (i+1):=by
 have a:dl s (i+1)=dl s i:=oZ (p:=F8) d (by simp[F8,e]);have c:dD s (i+1)=dD s i:=by unfold dD;rw[a]
 by_cases b:dl s i<s.size
 ·rw[kE s i b,kE s (i+1) (by omega),a,c]
 ·rw[mH s i b,mH s (i+1) (by omega)]
theorem Et{s:ByteArray}{i:Nat}(b:i<s.size)(a:s[i]=40\/s[i]=41):ex s i=(i,s.extract i (i+1))::ex s (i+1):=by
 have d:dl s i=i:=mE (p:=F8) b (by rcases a with a|a<;>simp[F8,a]);have e:dO (λc=> !lQ c) s i=i:=mE (p:=λc=> !lQ c) b (by rcases a with a|a<;>simp[lQ,a]);have f:dD s i=i+1:=by unfold dD;rw[d,e,if_pos ⟨rfl,b⟩]
 rw[kE s i (by omega),d,f]
theorem Lq{s:ByteArray}{i:Nat}(d:i<s.size)(a:lQ s[i]=false):ex s i=(i,s.extract i (dO (λc=> !lQ c) s (i+1)))::ex s (dO (λc=> !lQ c) s (i+1)):=by
 have b:dl s i=i:=mE (p:=F8) d (by simp[lQ]at a;simp[F8,a]);have e:dO (λc=> !lQ c) s (i+1)=dO (λc=> !lQ c) s i:=oZ (p:=λc=> !lQ c) d (by simp[a]);have g:=uj (λc=> !lQ c) s (i+1);have f:dD s i=dO (λc=> !lQ c) s (i+1):=by unfold dD;rw[b,if_neg (by omega),e]
 rw[kE s i (by omega),b,f]
theorem fK{w w1:World}{q:Option Nat}(a:w.grownBy w1 q)(o:Obj):w.grownBy (w1.alloc o) q:=
 ⟨a.os,a.tape,a.output,by have:=a.size;simp;omega,λk b c=>by
  exact(((ap w1.heap.size w1).alloc (ak _) o).block k (aR b a.size)).trans (a.block k b c)⟩
theorem mq{w w1:World}{q:Option Nat}(a:w.grownBy w1 q){b:Nat}(e:w.heap.size<=b)(o:Nat)(v:Value):w.grownBy (w1.setCell ⟨b,o,none⟩ v) q:=
 ⟨a.os,a.tape,a.output,by simpa [World.setCell]using a.size,λk c d=>(eV w1 ⟨b,o,none⟩ v k (by simp;omega)).trans (a.block k c d)⟩
theorem G3{w w1 w2:World}{q:Option Nat}(a:w.grownBy w1 q){g:Option Nat}(k:w1.grownBy w2 g)(f:∀b,g=some b->w.heap.size<=b):w.grownBy w2 q:=
 ⟨k.os.trans a.os,k.tape.trans a.tape,k.output.trans a.output,az a.size k.size,λc d h=>(k.block c (aR d a.size) (λe=>by have:=f c e.symm;omega)).trans (a.block c d h)⟩
theorem om{w w1 w2:World}{q:Option Nat}(a:w.grownBy w1 q)(k:aj w1 w2):w.grownBy w2 q:=
 ⟨k.os.trans a.os,k.tape.trans a.tape,k.output.trans a.output,az a.size k.size,λc b d=>(k.block c (aR b a.size)).trans (a.block c b d)⟩
theorem Rd.block{r:Nat}{s:ByteArray}{b e:Nat}{w w':World}(a:Rd r s b e w)(k:w'.heap[r]?=w.heap[r]?):Rd r s b e w':=k.trans a
theorem Rd.alloc{r:Nat}{s:ByteArray}{b e:Nat}{w:World}(a:Rd r s b e w)(o:Obj):Rd r s b e (w.alloc o):=
 a.block (((ap w.heap.size w).alloc (ak _) o).block r a.lt)
theorem Rd.far{r:Nat}{s:ByteArray}{b e:Nat}{w:World}(a:Rd r s b e w){g:Nat}(c:r<g)(o:Nat)(v:Value):Rd r s b e (w.setCell ⟨g,o,none⟩ v):=
 a.block (eV w ⟨g,o,none⟩ v r (by simp;omega))
def ahead(s:ByteArray)(b e:Nat):List Tok:=if b<s.size then (b,s.extract b e)::ex s e else []
def Py(r:Nat)(s:ByteArray)(w:World):Nat:=(ahead s (intOf ((w.cell? ⟨r,1,none⟩).getD undef)).toNat (intOf ((w.cell? ⟨r,2,none⟩).getD undef)).toNat).length
theorem Ky{r:Nat}{s:ByteArray}{b e:Nat}{w:World}{a:List Tok}(f:Rd r s b e w)(k:At s b e a):Py r s w=a.length:=by
 obtain⟨⟨h,c,d⟩,f1,f2⟩:=f.cells;simp only[Py,c,d,Option.getD_some,intOf,Int.toNat_natCast,ahead];rcases k.2.2 with⟨g,rfl⟩|⟨g,rfl⟩
 ·rw[if_neg (by omega)]
 ·rw[if_pos (by have:=k.2.1;omega)]
def lN(n:Nat)(s:ByteArray)(r:Nat)(e:List Tok)(w w':World)(v:Value)(ok:Bool):Prop:=
 w.grownBy w' (some r)/\∃b f c,Rd r s b f w'/\At s b f c/\
  (ok=true->(∃d:Tm n,df n d=v/\Is n d e c/\In w'.heap.size w' n d/\cd (λg=>w.heap.size<=g) n d)/\∀a,zn s.size e a=ij s.size c a)/\
  (ok=false->∀a,zn s.size e a=some (KQ s.size c))
def L0(n:Nat)(s:ByteArray)(r:Nat)(d:List Tok)(w w':World)(e:Ending):Prop:=
 ∃(k b:Int)(t:ByteArray)(a:Option Addr)(l c:Nat)(ok:Bool),e=.returned (.tuple #[.agg #[ab k,ab b,af t,ae a l c],.bool ok])/\
  Hid (lN n s r d w w' (.agg #[ab k,ab b,af t,ae a l c]) ok)
def NK(n:Nat):Prop:=∀(r:Nat)(s:ByteArray)(b e:Nat)(a:List Tok)(w:World),Rd r s b e w->At s b e a->s.size<=2048->a.length<=n->
 am 28 #[aB r] w λc w'=>L0 (n+1) s r a w w' c
theorem pe(r:Nat)(s:ByteArray)(b e:Nat)(x:ByteArray)(w:World)(c:Rd r s b e w)(d:b<=e)(f:e<=s.size)(g:s.extract b e=x):am 29 #[aB r] w λa w'=>a=.returned (af x)/\∃n,w'=w.drewN n:=by
 subst g;exact LJ r s b e w c d f
def Bx(q:Nat)(v0 v1 v2 v3:Value)(w:World):Prop:=w.heap[q]?=some (.cells #[v0,v1,v2,v3] 28)
theorem Bx.cells{q:Nat}{v0 v1 v2 v3:Value}{w:World}(a:Bx q v0 v1 v2 v3 w):(w.cell? ⟨q,0,none⟩=some v0/\w.cell? ⟨q,1,none⟩=some v1/\w.cell? ⟨q,2,none⟩=some v2/\w.cell? ⟨q,3,none⟩=some v3)/\ (w.frozen? ⟨q,0,none⟩=false/\w.frozen? ⟨q,1,none⟩=false/\w.frozen? ⟨q,2,none⟩=false/\w.frozen? ⟨q,3,none⟩=false):=by
 unfold Bx at a;exact⟨⟨by simp[World.cell?,a],by simp[World.cell?,a],by simp[World.cell?,a],by simp[World.cell?,a]⟩,by simp[World.frozen?,a],by simp[World.frozen?,a],by simp[World.frozen?,a],by simp[World.frozen?,a]⟩
theorem Bx.block{q:Nat}{v0 v1 v2 v3:Value}{w w':World}(a:Bx q v0 v1 v2 v3 w)(k:w'.heap[q]?=w.heap[q]?):Bx q v0 v1 v2 v3 w':=k.trans a
theorem Bx.lt{q:Nat}{v0 v1 v2 v3:Value}{w:World}(a:Bx q v0 v1 v2 v3 w):q<w.heap.size:=(aF.1 a).1
theorem Bx.set3{q:Nat}{v0 v1 v2 v3:Value}{w:World}(a:Bx q v0 v1 v2 v3 w)(v:Value):Bx q v0 v1 v2 v (w.setCell ⟨q,3,none⟩ v):=by
 unfold Bx at*;simp[World.setCell,bN,a]
theorem Bx.new(w:World)(v0 v1 v2 v3:Value):Bx w.heap.size v0 v1 v2 v3 (w.alloc (.cells #[v0,v1,v2,v3] 28)):=aE w _
def Jg(n:Nat)(r:Nat)(s:ByteArray)(c:List Tok)(w:World)(b e:Nat)(v:Value)(wr:World)(l:List (Tm (n+1)))(a:List Tok):Prop:=
 Rd r s b e wr/\At s b e a/\(w.alloc (.cells #[ab 0,ab 0,af ⟨#[]⟩,ae none 0 0] 28)).grownBy wr (some r)/\qO (w.heap.size+2) (n+1) l v wr/\
  Bx w.heap.size (ab 0) (ab 0) (af ⟨#[]⟩) (ae none 0 0) wr/\Bx (w.heap.size+1) (ab 4) (ab 0) (af ⟨#[]⟩) v wr/\
  yG (Is (n+1)) l c a/\a.length<=c.length/\∀d,ij s.size c (d+1)=ij s.size a (d+1)
def L6(n:Nat)(r:Nat)(s:ByteArray)(c:List Tok)(w:World)(b e:Nat)(v:Value)(wr:World):Prop:=
 ∃(l:List (Tm (n+1)))(a:List Tok),Jg n r s c w b e v wr l a
theorem fE(w:World)(o:Obj){q:Nat}(a:q<w.heap.size):(w.alloc o).heap[q]?=w.heap[q]? :=(dd w o none).block q a (by simp)
theorem IN{n r:Nat}{s:ByteArray}{b e:Nat}{t0:Tok}{a:List Tok}{w w1:World}(h:Rd r s b e w)(c:At s b e (t0::a))(k:Rd r s (dl s e) (dD s e) w1)(g:((w.alloc (.cells #[ab 0,ab 0,af ⟨#[]⟩,ae none 0 0] 28)).alloc (.cells #[ab 4,ab 0,af ⟨#[]⟩,ae none 0 0] 28)).grownBy w1 (some r)):L6 n r s a w (dl s e) (dD s e) (ae none 0 0) w1:=by
 have i:=h.lt;have d:=(At.cons c).2.1;refine⟨[],a,k,by rw[d];exact At.next c.2.1,bW (dd _ _ _) g,⟨⟨rfl,ah ⟨rfl,rfl⟩⟩,by simp⟩,?_,?_,rfl,ak _,λ_=>rfl⟩
 ·exact((Bx.new w _ _ _ _).block (fE _ _ (by simp))).block (g.block _ (by simp;omega) (by simp;omega))
 ·have:=Bx.new (w.alloc (.cells #[ab 0,ab 0,af ⟨#[]⟩,ae none 0 0] 28)) (ab 4) (ab 0) (af ⟨#[]⟩) (ae none 0 0);have f:(w.alloc (.cells #[ab 0,ab 0,af ⟨#[]⟩,ae none 0 0] 28)).heap.size=w.heap.size+1:=by simp
  rw[f]at this;exact this.block (g.block _ (by simp) (by simp;omega))
theorem qO.kept{base n:Nat}{l:List (Tm n)}{v:Value}{w w':World}(a:qO base n l v w){r:Nat}(g:w.grownBy w' (some r))(k:r<base):qO base n l v w':=by
 refine⟨a.1.kept g (ai λf=>by have:=a.1.lt r f;omega),λe d=>⟨?_,(a.2 e d).2⟩⟩;obtain⟨c,h⟩:=a.2 e d;have i:=In.offB h c;exact(In.off (λb j=>g.block b j.2 (by simp;omega)) i c).mono g.size
theorem qO.snoc{base n:Nat}{l:List (Tm (n+1))}{v:Value}{w0 w w2:World}(h:qO base (n+1) l v w0){r:Nat}(i:w0.grownBy w (some r))(A:r<base){x:Tm (n+1)}(C:In w.heap.size w (n+1) x)(y:cd (λq=>w0.heap.size<=q) (n+1) x)(D:base<=w0.heap.size){w1:World}(j:w.grownBy w1 none){g c:Nat}(z:w2.ownsRow base 28 4 (ae (some ⟨g,0,none⟩) (l.length+1) c) (l.length+1) (cv (l.map (gg (n+1)))++vC (gg (n+1) x)))(k:w1.grownBy w2 v.ownBlock)(u:v.ownBlock=some g\/g=w1.heap.size):qO base (n+1) (l++ [x]) (ae (some ⟨g,0,none⟩) (l.length+1) c) w2:=by
 have p:=h.kept i A;have E:=i.size;have F:=j.size;have G:=k.size;have B:∀b,v.ownBlock=some b->b<w0.heap.size:=λb d=>(h.1.lt b d).2;refine⟨by simpa [cv]using z,λa f=>?_⟩
 have key:∀a:Tm (n+1),In w.heap.size w (n+1) a->cd (λb=>base<=b/\v.ownBlock≠some b) (n+1) a->
   In w2.heap.size w2 (n+1) a/\cd (λb=>base<=b/\(Value.slice (some ⟨g,0,none⟩) (l.length+1) c).ownBlock≠some b) (n+1) a:=by
  intro a m t;have o:=In.offB t m;refine⟨(In.off (λb e=>(k.block b (by omega) (λd=>e.1.2 d.symm)).trans (j.block b e.2 (by simp))) o m).mono (by omega),o.mono λb e=>⟨e.1.1,?_⟩⟩;intro d;have s:g=b:=by simpa [Value.ownBlock]using d
  rcases u with h|h
  ·exact e.1.2 (by rw[h,s])
  ·omega
 rcases dp.1 f with f|f
 ·exact key a (p.2 a f).1 (p.2 a f).2
 ·have d:a=x:=by simpa using f
  subst d;exact key a C (y.mono λb e=>⟨by omega,λd=>by have:=B b d;omega⟩)
theorem IJ{n r:Nat}{s:ByteArray}{t0:Tok}{p:List Tok}{w wr w2:World}{b e:Nat}{a:Option Addr}{L c m:Nat}(N:r<w.heap.size)(x:wK t0.2=true)(A:L6 n r s p w b e (ae a L c) wr)(j:vh (s.extract b e)=true)(k:Rd r s (dl s e) (dD s e) w2)(g:(wr.drewN m).grownBy w2 (some r)):lN (n+2) s r (t0::p) (w.alloc (.cells #[ab 0,ab 0,af ⟨#[]⟩,ae none 0 0] 28)) w2 (.agg #[ab 4,ab 0,af ⟨#[]⟩,ae a L c]) true/\ Bx w.heap.size (ab 0) (ab 0) (af ⟨#[]⟩) (ae none 0 0) w2/\Bx (w.heap.size+1) (ab 4) (ab 0) (af ⟨#[]⟩) (ae a L c) w2:=by
 obtain⟨l,o,J,h,q,B,u,v,C,K,D⟩:=A;have P:=q.size;have G:=v.lt;have i:wr.grownBy w2 (some r):=bW (eJ wr m _) g;obtain⟨H,I,ev,F,E⟩:=(B.kept i (by omega)).tup;injection ev with d f z;subst d f z;refine⟨⟨bW q i,dl s e,dD s e,ex s e,k,At.next h.2.1,λ_=>⟨⟨_,rfl,?_,E,F.mono λO M=>by simp;omega⟩,?_⟩,by simp⟩,u.block (i.block _ u.lt (by simp;omega)),v.block (i.block _ G (by simp;omega))⟩
 ·cases o with
  | nil=>simp[vh,h.nil]at j
  | cons t o=>
   obtain⟨d,f,_⟩:=h.cons;subst d f;exact⟨t0,p,rfl,ai ⟨x,rfl,_,C,j⟩⟩
 ·intro y;cases o with
  | nil=>simp[vh,h.nil]at j
  | cons t o=>
   obtain⟨d,f,_⟩:=h.cons;subst d f;simp only[zn,x,cF];rw[D y,vT _ _ _ _ j]
theorem lN.box{n r:Nat}{s:ByteArray}{d:List Tok}{w w1:World}{o:Obj}{v:Value}{ok:Bool}(a:r<w.heap.size)(g:lN n s r d (w.alloc o) w1 v ok)(v0 v1 v2 v3:Value):lN n s r d w ((((w1.setCell ⟨w.heap.size,0,none⟩ v0).setCell ⟨w.heap.size,1,none⟩ v1).setCell ⟨w.heap.size,2,none⟩ v2).setCell ⟨w.heap.size,3,none⟩ v3) v ok:=by
 obtain⟨h,b,f,q,i,j,k,l⟩:=g;refine⟨mq (mq (mq (mq (bW (dd _ _ _) h) (ak _) _ _) (ak _) _ _) (ak _) _ _) (ak _) _ _,b,f,q,(((i.far a _ _).far a _ _).far a _ _).far a _ _,j,λm=>?_,l⟩;obtain⟨⟨t,u,x,y,e⟩,z⟩:=k m;have c:∀b,(w.alloc o).heap.size<=b->((((w1.setCell ⟨w.heap.size,0,none⟩ v0).setCell ⟨w.heap.size,1,none⟩ v1).setCell ⟨w.heap.size,2,none⟩ v2).setCell ⟨w.heap.size,3,none⟩ v3).heap[b]?=w1.heap[b]? :=λb c=>by
  have A:w.heap.size<b:=by simp at c;omega
  rw[eV _ _ _ _ (by simp;omega),eV _ _ _ _ (by simp;omega),eV _ _ _ _ (by simp;omega),eV _ _ _ _ (by simp;omega)]
 refine⟨⟨t,u,x,(In.off c e y).mono (by simp[World.setCell]),e.mono λB p=>by simp at p;omega⟩,z⟩
theorem lN.alloc{n r:Nat}{s:ByteArray}{a:List Tok}{w w1:World}{v:Value}{ok:Bool}(f:lN n s r a w w1 v ok)(o:Obj):lN n s r a w (w1.alloc o) v ok:=by
 obtain⟨g,b,e,p,h,i,j,k⟩:=f;refine⟨fK g o,b,e,p,h.alloc o,i,λm=>?_,k⟩;obtain⟨⟨q,t,u,c,d⟩,x⟩:=j m;exact⟨⟨q,t,u,(In.off (λb l=>fE w1 o l.2) (In.offB d c) c).mono (by simp),d⟩,x⟩
theorem At.no{s:ByteArray}{b e:Nat}{a:List Tok}(d:At s b e a)(f:vh (s.extract b e)=false):∀t c,a=t::c->vh t.2=false:=by
 intro t c e;subst e;rw[d.cons.1];exact f
theorem yv{n r:Nat}{s:ByteArray}{h f:List Tok}{w wr w1:World}{b e m:Nat}{v:Value}{l:List (Tm (n+1))}(u:r<w.heap.size)(a:Jg n r s h w b e v wr l f)(g:(wr.drewN m).grownBy w1 (some r)):Bx w.heap.size (ab 0) (ab 0) (af ⟨#[]⟩) (ae none 0 0) w1/\Bx (w.heap.size+1) (ab 4) (ab 0) (af ⟨#[]⟩) v w1/\w.heap.size+1<w1.heap.size:=by
 obtain⟨i,j,k,o,c,d,p,q,t⟩:=a;have a:=d.block (g.block _ d.lt (by simp;omega));exact⟨c.block (g.block _ c.lt (by simp;omega)),a,a.lt⟩
theorem IK{n r:Nat}{s:ByteArray}{t0:Tok}{d c:List Tok}{w wr w1:World}{b e m:Nat}{v A:Value}{l:List (Tm (n+1))}(q:wK t0.2=true)(i:Jg n r s d w b e v wr l c)(p:vh (s.extract b e)=false)(R:lN (n+1) s r c (wr.drewN m) w1 A false)(z:Value):lN (n+2) s r (t0::d) (w.alloc (.cells #[ab 0,ab 0,af ⟨#[]⟩,ae none 0 0] 28)) w1 z false:=by
 obtain⟨B,j,k,C,D,E,F,G,o⟩:=i;obtain⟨h,f,g,y,t,u,_,x⟩:=R;refine⟨bW k (bW (eJ wr m _) h),f,g,y,t,u,by simp,λ_ a=>?_⟩;simp only[zn,q,cF];rw[o a,vU _ _ _ (j.no p)];exact x rfl (a+1)
theorem Fr{n:Nat}:(l:List (Tm n))->(a r:List Tok)->yG (Is n) l a r->l.length+r.length<=a.length
 | [],a,r,h=>by have e:a=r:=h;subst e;simp
 | x::l,a,r,h=>by
  obtain⟨m,b,c⟩:=h;have d:=Fr l m r c;have f:=t8 n x a m b;have g:0<(ax n x).length:=by
   cases n with
   | zero=>exact b.elim
   | succ n=>simp[ax]
  simp only[bf];omega
theorem Nt{n r:Nat}{s:ByteArray}{h o:List Tok}{w wr w1:World}{b e m:Nat}{a:Option Addr}{L c:Nat}{l:List (Tm (n+1))}(F:r<w.heap.size)(q:Jg n r s h w b e (ae a L c) wr l o)(g:(wr.drewN m).grownBy w1 (some r))(E:h.length<=2048):l.length=L/\L<=2048/\∀d f,((w1.alloc d).alloc f).ownsRow (w.heap.size+2) 28 4 (ae a L c) L (cv (l.map (gg (n+1)))):=by
 obtain⟨x,y,z,k,A,B,t,C,D⟩:=q;have p:wr.grownBy w1 (some r):=bW (eJ wr m _) g;obtain⟨u,v,ev,_⟩:=k.tup;injection ev with _ i _;have:=Fr l h o t;have j:=(k.kept p (by omega)).1;rw[<-i]at j;exact⟨i.symm,by omega,λd f=>(j.alloc d).alloc f⟩
theorem IL{n r:Nat}{s:ByteArray}{S y:List Tok}{w wr w1 f:World}{b e m:Nat}{a:Option Addr}{L c:Nat}{l:List (Tm (n+1))}(al:r<w.heap.size)(D:Jg n r s S w b e (ae a L c) wr l y)(ah:vh (s.extract b e)=false){k z:Int}{t:ByteArray}{q:Option Addr}{x u:Nat}(R:lN (n+1) s r y (wr.drewN m) w1 (.agg #[ab k,ab z,af t,ae q x u]) true){O P:Obj}{g h:Nat}(ag:l.length=L)(I:f.ownsRow (w.heap.size+2) 28 4 (ae (some ⟨g,0,none⟩) (L+1) h) (L+1) (cv (l.map (gg (n+1)))++ [ab k,ab z,af t,ae q x u]))(v:((w1.alloc O).alloc P).grownBy f (Value.slice a L c).ownBlock)(ai:(Value.slice a L c).ownBlock=some g\/g=w1.heap.size+2):(Bx (w.heap.size+1) (ab 4) (ab 0) (af ⟨#[]⟩) (ae a L c) f/\ ∃j o,L6 n r s S w j o (ae (some ⟨g,0,none⟩) (L+1) h) (f.setCell ⟨w.heap.size+1,3,none⟩ (ae (some ⟨g,0,none⟩) (L+1) h))/\Py r s (f.setCell ⟨w.heap.size+1,3,none⟩ (ae (some ⟨g,0,none⟩) (L+1) h))<Py r s wr):=by
 subst ag;obtain⟨aq,ar,aE⟩:=yv al D R.1;obtain⟨X,E,Y,F,aA,Z,aa,aB,ad⟩:=D;obtain⟨W,j,o,T,an,M,ao,_⟩:=R;have C:wr.grownBy w1 (some r):=bW (eJ wr m _) W;obtain⟨⟨i,p,U,au,av⟩,aw⟩:=ao rfl;have H:∀b,(Value.slice a l.length c).ownBlock=some b->w.heap.size+2<=b:=λb e=>(F.1.lt b e).1;have aj:vC (gg (n+1) i)=[ab k,ab z,af t,ae q x u]:=by
  have V:df (n+1) i=.agg (vC (gg (n+1) i)).toArray:=rfl;rw[V]at p;injection p with p;exact iZ.2 p
 rw[<-aj]at I;have K:=F.snoc C (by omega) au av (by have:=Z.lt;simp;omega) (w1:=(w1.alloc O).alloc P) (fK (fK (eJ w1 0 _) _) _) I v (by simpa using ai);have ak:∀d,d<w.heap.size+2->some d≠(Value.slice a l.length c).ownBlock:=λd J e=>by have:=H d e.symm;omega
 have A:∀d,d<w.heap.size+2->f.heap[d]?=w1.heap[d]? :=λd J=>(v.block d (by simp;omega) (ak d J)).trans ((fE _ _ (by simp;omega)).trans (fE _ _ (by omega)));have Q:=ar.block (A (w.heap.size+1) (by omega));have ap:Rd r s j o f:=an.block (A r (by omega));have az:f.heap.size=(f.setCell ⟨w.heap.size+1,3,none⟩ (ae (some ⟨g,0,none⟩) (l.length+1) h)).heap.size:=by simp[World.setCell]
 have N:=ap.far (g:=w.heap.size+1) (by omega) 3 (ae (some ⟨g,0,none⟩) (l.length+1) h);have aC:=t8 (n+1) i y T U;have aD:0<(ax (n+1) i).length:=by simp[ax]
 refine⟨Q,j,o,⟨l++ [i],T,N,M,?_,?_,?_,Q.set3 _,aa.snoc U,by omega,λB=>?_⟩,?_⟩
 ·refine mq (G3 (fK (fK (bW Y C) _) _) v λb G=>?_) (by simp) _ _;have:=H b G;simp;omega
 ·refine⟨ownsRow_setCell_below (by simpa using K.1) (by simp) _,λay am=>?_⟩;obtain⟨y1,y2⟩:=K.2 ay am;refine⟨?_,y2⟩;rw[<-az];exact In.off (λb G=>eV _ _ _ _ (by simp;omega)) y2 y1
 ·exact(aq.block (A w.heap.size (by omega))).block (eV _ _ _ _ (by simp))
 ·rw[ad B,vU _ _ _ (E.no ah)];exact aw (B+1)
 ·rw[Ky N M,Ky X E];omega
theorem GD(w:World)(o:Obj)(v0 v1 v2 v3:Value)(e:TypeId):∀(j:Nat)(a:Value),[v0,v1,v2,v3][j]?=some a->((w.alloc o).alloc (.cells #[v0,v1,v2,v3] e)).cell? ((⟨w.heap.size+1,0,none⟩:Addr).add j)=some a:=by
 intro j a b;rw[fj];rw[World.cell?_alloc_at _ _ _ _ (by simp)];simpa using b
theorem J6(k d:Int)(t:ByteArray)(a:Option Addr)(l c:Nat):∀v∈[Value.int .i64 k,ab d,af t,ae a l c],v.oneCell'=true:=by
 intro v b;simp at b;rcases b with rfl|rfl|rfl|rfl<;>rfl
theorem EB(n:Nat)(ih:NK n)(r:Nat)(s:ByteArray)(b e:Nat)(t0:Tok)(y:List Tok)(w:World)(G:Rd r s b e w)(Q:At s b e (t0::y))(E:s.size<=2048)(U:y.length<=n)(V:wK t0.2=true):am 62 #[aB r] w λg w'=>L0 (n+2) s r (t0::y) w w' g:=by
 have q:=G.lt;obtain⟨aw,T,X,Y,Z⟩:=bP gh;have B:=aq (⟨T,X,Y,Z⟩:_/\_/\_/\_);clear T X Y Z;have d:=aq (⟨G,Q,E,U,V⟩:_/\_/\_/\_/\_);have aj:=aq ih;clear G Q U V ih;go_enter func62,ntmps62;go_wp2_with (go_at_call 27;refine(rv r s b e _ ((d.1.alloc _).alloc _) d.2.1.2.1 E).mono ?_;rintro g ah ⟨rfl,m⟩);go_loopw [] (λwr=>∃(b e:Nat)(D:Option Addr)(u c:Nat),Hid (L6 n r s y w b e (ae D u c) wr)/\True) (λwr=>Py r s wr)
 case atStart=>exact⟨_,_,_,_,_,IN d.1 d.2.1 m.1 m.2,trivial⟩
 case round=>
  obtain⟨f,h,D,u,c,P,_⟩:=hrel;clear m;obtain⟨l,I,i⟩:=P.out;replace i:=aq i;obtain⟨j,aa⟩:∃j,s.extract f h=j:=⟨_,rfl⟩;have C:=aq aa;clear aa;have a:Hid (Rd r s f h wr/\At s f h I/\I.length<=n/\y.length<=2048):=by
   obtain⟨o,p,H,aI,aJ,aK,aL,ap,aM⟩:=i.out;refine⟨o,p,az ap d.2.2.2.1,?_⟩;have:=lK s (s.size-e) e (ak _);rw[<-d.out.2.1.cons.2.1]at this;omega
  cases hc:(j.toList==[41])
  ·have aN:(j.toList=[41])=False:=by simpa using hc
   have aO:(j.toList !=[41])=true:=by simpa using hc
   have O:Hid (vh (s.extract f h)=false):=by rw[C.out];exact hc
   go_wp2_with (first
    | (go_at_call 29;refine(pe r s f h j wr a.1 a.2.1.1 a.2.1.2.1 C).mono ?_;rintro g ah ⟨rfl,x,rfl⟩)
    | (go_at_call 28;refine(aj r s f h I (wr.drewN x) (a.1.drew x) a.2.1 E a.2.2.1).mono ?_;rintro g F ⟨k,aE,t,al,aD,ao,ok,rfl,A⟩;obtain⟨ad,ag,aP⟩:=yv q i A.1;have ar:w.heap.size<F.heap.size:=(by omega);obtain⟨⟨J,K,L,M⟩,f0,f1,f2,f3⟩:=ad.cells;obtain⟨⟨y0,y1,y2,aF⟩,ax,ay,aA,aC⟩:=ag.cells;clear ad ag;cases ok)
    | (at_builtin;have z:=aq (Nt q i A.1 a.2.2.2);refine wpList_append_lies _ rfl _ _ 26 rfl (w.heap.size+2) 28 aw _ 4 56 underlying26 B.1 B.2.1 B.2.2.1 B.2.2.2 rfl (by decide) _ u _ rfl (z.2.2 _ _) ⟨F.heap.size+1,0,none⟩ 1 1 [ab k,ab aE,af t,ae al aD ao] rfl rfl (GD _ _ _ _ _ _ _) (J6 _ _ _ _ _ _) (by decide) (by have:=z.2.1;unfold maxLen;omega) (by have:=z.2.1;omega) (by simp;omega) (F.heap.size+2) (by simp) ?_;intro aH aG aU W S R au;have N:=aq (IL q i O A z.1 W S R);obtain⟨⟨aV,aW,aX,aY⟩,aQ,aR,aS,aT⟩:=N.out.1.cells;clear W S R au))
   ·exact av (v:=.tuple #[.agg #[ab 0,ab 0,af ⟨#[]⟩,ae none 0 0],.bool false]) (by simp[results,results62,go_sem,J,K,L,M,ar]) rfl ⟨0,0,⟨#[]⟩,none,0,0,false,rfl,(lN.box q (IK d.2.2.2.2 i O A _) _ _ _ _).alloc _⟩
   ·obtain⟨an,g,o,p⟩:=N.2;go_roundw
    case rel=>exact⟨an,g,_,_,_,o,trivial⟩
    case measure=>exact p
  ·go_wp2_with (first
     | (go_at_call 29;refine(pe r s f h j wr a.1 a.2.1.1 a.2.1.2.1 C).mono ?_;rintro g ah ⟨rfl,x,rfl⟩)
     | (go_at_call 27;refine(rv r s f h (wr.drewN x) (a.1.drew x) a.2.1.2.1 E).mono ?_;rintro g F ⟨rfl,m⟩;obtain⟨o,p,H⟩:=IJ q d.2.2.2.2 P (by rw[C.out];exact hc) m.1 m.2;obtain⟨⟨J,K,L,M⟩,f0,f1,f2,f3⟩:=p.cells;obtain⟨⟨y0,y1,y2,aF⟩,ax,ay,aA,aC⟩:=H.cells;have ai:=aq (lN.box q o);clear o p H))
   exact av (v:=.tuple #[.agg #[ab 4,ab 0,af ⟨#[]⟩,ae D u c],.bool true]) (by simp[results,results62,go_sem,J,K,L,M]) rfl ⟨4,0,⟨#[]⟩,D,u,c,true,rfl,ai _ _ _ _⟩
theorem Kp{x:ByteArray}(a:x.toList=[]):dI x=false:=by
 rw[bE]at a;have b:x.size=0:=by
  have:x.data.toList.length=x.size:=by simp
  rw[a]at this;exact this.symm
 simp[dI,bE,dx,a,b]
theorem lN.undrew{n r:Nat}{s:ByteArray}{a:List Tok}{w w1:World}{m:Nat}{v:Value}{ok:Bool}(b:lN n s r a (w.drewN m) w1 v ok):lN n s r a w w1 v ok:=by
 obtain⟨c,d⟩:=b;exact⟨bW (eJ w m _) c,d⟩
theorem Kq{n r:Nat}{s:ByteArray}{b e:Nat}{d:List Tok}{w w1 w2:World}{x:ByteArray}(a:At s b e d)(h:s.extract b e=x)(z:s.size<=2048)(i:wK x=false){k f:Int}{t:ByteArray}(c:dI x=true)(u:(k,f,t)=fI x)(A:t.size<=x.size)(p:dt k)(q:dt f){o:Obj}(m:aj w w1)(v:Rd r s (dl s e) (dD s e) w2)(g:(w1.alloc o).grownBy w2 (some r)):lN (n+1) s r d w w2 (.agg #[ab k,ab f,af t,ae none 0 0]) true:=by
 have B:x.size<=2048:=by rw[<-h];simp;have:=a.2.1;omega
 refine⟨bW (fK (om (gB w _) m) o) g,dl s e,dD s e,ex s e,v,At.next a.2.1,λ_=>?_,by simp⟩;cases d with
 | nil=>
  have:=a.nil;rw[h]at this;rw[Kp this]at c;exact absurd c (by simp)
 | cons t0 d=>
  obtain⟨j,l,_⟩:=a.cons;subst j l;rw[h];refine⟨⟨((k,f,t),(none,0),[]),rfl,⟨_,_,rfl,ah ⟨i,c,u,rfl,rfl⟩⟩,⟨⟨p,q,by unfold maxLen;simp only;omega,aI _,aI _⟩,ah rfl⟩,ah rfl⟩,λy=>?_⟩;simp only[zn,i,c];simp
theorem MP{n r:Nat}{s:ByteArray}{b e:Nat}{a:List Tok}{w w1:World}{x:ByteArray}(d:At s b e a)(k:s.extract b e=x)(j:wK x=false)(i:dI x=false)(c:Rd r s b e w)(f:aj w w1)(v:Value):lN (n+1) s r a w w1 v false:=by
 refine⟨om (gB w _) f,b,e,a,c.block (f.block r c.lt),d,by simp,λ_ l=>?_⟩;cases a with
 | nil=>rfl
 | cons t0 a=>
  obtain⟨g,h,_⟩:=d.cons;subst g h;simp only[zn,k,j,i];simp[KQ]
theorem F6{w w1:World}{m:Nat}(a:Below (w.drewN m).heap.size (w.drewN m) w1):aj w w1:=⟨a.os,a.tape,a.output,a.size,a.block⟩
theorem uC{w w2:World}{r:Nat}{v0 v1 v2 v3:Value}(a:r<w.heap.size)(g:(w.alloc (.cells #[v0,v1,v2,v3] 28)).grownBy w2 (some r)):Bx w.heap.size v0 v1 v2 v3 w2:=
 (Bx.new w v0 v1 v2 v3).block (g.block _ (by simp) (by simp;omega))
theorem yr(n:Nat)(r:Nat)(s:ByteArray)(b e:Nat)(p:List Tok)(w:World)(l:Rd r s b e w)(D:At s b e p)(E:s.size<=2048)(ih:∀w':World,Rd r s b e w'->wK (s.extract b e)=true->am 62 #[aB r] w' λd S=>L0 (n+1) s r p w' S d):am 28 #[aB r] w λd w'=>L0 (n+1) s r p w w' d:=by
 have h:=l.lt;have a:=aq (⟨l,D⟩:_/\_);have O:=aq ih;clear l D ih;obtain⟨c,m⟩:∃c,s.extract b e=c:=⟨_,rfl⟩;have g:=aq m;have R:c.size<=2048:=by rw[<-m];simp;have:=a.2.2.1;omega
 clear m;cases hc:(c.toList==[40])
 ·have X:(c.toList=[40])=False:=by simpa using hc
  have Y:(c.toList !=[40])=true:=by simpa using hc
  go_enter func28,ntmps28
  go_wp2_with (first
   | (go_at_call 29;refine(pe r s b e c _ (a.1.alloc _) a.2.1 a.2.2.1 g).mono ?_;rintro d L ⟨rfl,o,rfl⟩)
   | (go_at_call 29;refine(pe r s b e c _ ((a.1.alloc _).drew o) a.2.1 a.2.2.1 g).mono ?_;rintro d L ⟨rfl,ah,rfl⟩)
   | (go_at_call 63;refine(Hs c _ R).mono ?_;rintro d q ⟨⟨k,f,t,ok,rfl,A⟩,HB⟩;replace HB:=F6 HB;obtain⟨⟨u,x,y,z⟩,f0,f1,f2,f3⟩:=yO HB;have P:w.heap.size<q.heap.size:=(by have:=HB.size;simp at this;omega);have Q:r<q.heap.size:=(by omega);replace HB:=aq HB;cases ok)
   | (go_at_call 27;refine(rv r s b e _ ((((a.1.alloc _).block (HB.block r (by simp;omega)))).alloc _) a.2.2.1 E).mono ?_;rintro d an ⟨rfl,i⟩;have N:=aq (bW (fK (om (gB _ _) HB) _) i.2);obtain⟨⟨T,U,V,W⟩,ai,aj,ak,al⟩:=(uC h N).cells;obtain⟨⟨y0,y1,y2,ao⟩,Z,aa,ad,ag⟩:=(uC Q i.2).cells;obtain⟨G,H,I,J,K⟩:=A.out;have M:=aq (lN.box h (Kq (n:=n) a.2 g E hc G.symm (H (by trivial)) I J K HB i.1 i.2));clear G H I J K))
  ·exact av (v:=.tuple #[.agg #[ab k,ab f,af t,ae none 0 0],.bool false]) (by simp[results,results28,go_sem,u,x,y,z,P]) rfl ⟨k,f,t,none,0,0,false,rfl,(lN.box h (MP a.2 g hc A.1.symm (a.1.alloc _) HB _) _ _ _ _).alloc _⟩
  ·exact av (v:=.tuple #[.agg #[ab k,ab f,af t,ae none 0 0],.bool true]) (by simp[results,results28,go_sem,T,U,V,W]) rfl ⟨k,f,t,none,0,0,true,rfl,M _ _ _ _⟩
 ·go_enter func28,ntmps28
  go_wp2_with (first
   | (go_at_call 29;refine(pe r s b e c _ (a.1.alloc _) a.2.1 a.2.2.1 g).mono ?_;rintro d L ⟨rfl,o,rfl⟩)
   | (go_at_call 62;refine(O _ ((a.1.alloc _).drew o) (by rw[g.out];exact hc)).mono ?_;rintro d q ⟨k,f,t,B,F,C,ok,rfl,j⟩;replace j:=aq j.undrew;obtain⟨⟨u,x,y,z⟩,f0,f1,f2,f3⟩:=(uC h j.1).cells))
  exact av (v:=.tuple #[.agg #[ab k,ab f,af t,ae B F C],.bool ok]) (by simp[results,results28,go_sem,u,x,y,z]) rfl ⟨k,f,t,B,F,C,ok,rfl,lN.box h j _ _ _ _⟩
theorem Hv(n:Nat):NK n:=by
 induction n with
 | zero=>
  intro g h b d c k j a f l;refine yr 0 g h b d c k j a f λm _ e=>?_;have i:c=[]:=bF (by omega);subst i;simp[wK,a.nil]at e
 | succ n ih=>
  intro g h b d c k j a f l;refine yr (n+1) g h b d c k j a f λm o e=>?_;cases c with
  | nil=>simp[wK,a.nil]at e
  | cons t c=>
   have i:=a.cons.1;refine EB n ih g h b d t c m o a f (by simp at l;omega) ?_;rw[i];exact e
def oF:Value:=.agg #[ab 0,ab 0,af ⟨#[]⟩,ae none 0 0]
def P0(s:ByteArray)(w w':World)(v:Value)(pos b:Int):Prop:=
 (2048<s.size/\v=oF/\pos=0/\b=2)\/(∃c:Nat,s.size<=2048/\zn s.size (ex s 0) 0=some c/\v=oF/\pos=c/\b=3)\/
  (s.size<=2048/\zn s.size (ex s 0) 0=none/\∃(n:Nat)(a:Tm n),Is n a (ex s 0) []/\In w'.heap.size w' n a/\cd (λd=>w.heap.size<=d) n a/\pos=0/\b=bv n a/\((bv n a≠0/\v=oF)\/(bv n a=0/\v=df n a)))
def PZ(s:ByteArray)(w w':World)(e:Ending):Prop:=
 ∃(k d:Int)(t:ByteArray)(a:Option Addr)(l c:Nat)(pos b:Int),e=.returned (.tuple #[.agg #[ab k,ab d,af t,ae a l c],ab pos,ab b])/\
  Hid (P0 s w w' (.agg #[ab k,ab d,af t,ae a l c]) pos b/\aj w w')
theorem vV{w:World}{q b:Nat}(a:b≠q)(v0 v1 v2 v3:Value):((((w.setCell ⟨q,0,none⟩ v0).setCell ⟨q,1,none⟩ v1).setCell ⟨q,2,none⟩ v2).setCell ⟨q,3,none⟩ v3).heap[b]?=w.heap[b]? :=by
 rw[eV _ _ _ _ (by simpa using a),eV _ _ _ _ (by simpa using a),eV _ _ _ _ (by simpa using a),eV _ _ _ _ (by simpa using a)]
theorem yh{w:World}{q:Nat}(v0 v1 v2 v3:Value):((((w.setCell ⟨q,0,none⟩ v0).setCell ⟨q,1,none⟩ v1).setCell ⟨q,2,none⟩ v2).setCell ⟨q,3,none⟩ v3).heap.size=w.heap.size:=by simp[World.setCell]
theorem Hj{s:ByteArray}{w w2 a:World}(g:((w.alloc (.cells #[ab 0,ab 0,af ⟨#[]⟩,ae none 0 0] 28)).alloc (.cells #[af s,ab 0,ab 0] 70)).grownBy w2 (some (w.heap.size+1)))(b:w2.grownBy a (some (w.heap.size+1))):Bx w.heap.size (ab 0) (ab 0) (af ⟨#[]⟩) (ae none 0 0) a/\w.heap.size+1<a.heap.size/\aj w a/\w.heap.size+2<=w2.heap.size:=by
 have c:=bW g b;have e:=g.size;have h:=b.size;simp at e;refine⟨((Bx.new w _ _ _ _).block (fE _ _ (by simp))).block (c.block _ (by simp;omega) (by simp)),by omega,?_,by omega⟩;exact(((ap _ _).alloc (ak _) _).alloc (by simp) _).grown c (by simp;omega) (λf d=>by simp at d;omega)
theorem In.drewN{B:Nat}{w:World}{n:Nat}{x:Tm n}(m:Nat){P:Nat->Prop}(k:cd P n x)(a:In B w n x):In B (w.drewN m) n x:=In.off (w:=w) (w':=w.drewN m) (λ_ _=>rfl) k a
theorem KL{s:ByteArray}{w w2 c:World}{v:Value}{b e:Nat}{a:List Tok}{x:ByteArray}(A:s.extract b e=x)(z:(x.toList==[])=true)(D:s.size<=2048)(r:At s b e a)(E:w.heap.size+2<=w2.heap.size)(l:(∃x:Tm 2049,df 2049 x=v/\Is 2049 x (ex s 0) a/\In c.heap.size c 2049 x/\cd (λq=>w2.heap.size<=q) 2049 x)/\∀d,zn s.size (ex s 0) d=ij s.size a d)(o:Obj)(m:Nat):∃y:Tm 2049,v=df 2049 y/\Is 2049 y (ex s 0) []/\In ((c.alloc o).drewN m).heap.size ((c.alloc o).drewN m) 2049 y/\cd (λq=>w.heap.size+2<=q) 2049 y/\(ax 2049 y).length<=2097152/\zn s.size (ex s 0) 0=none:=by
 obtain⟨⟨y,n,h,i,f⟩,p⟩:=l;have j:a=[]:=by
  cases a with
  | nil=>rfl
  | cons t a=>
   have k:=r.cons.2.2;rw[A]at k;have g:x.toList=[]:=by simpa using z
   rw[bE]at g;have:x.data.toList.length=x.size:=by simp
   rw[g]at this;simp at this;omega
 subst j;have B:=t8 2049 y (ex s 0) [] h;have g:=lK s s.size 0 (by omega);refine⟨y,n.symm,h,In.drewN m f ((In.off (λb u=>fE c o u.2) (In.offB f i) i).mono (by simp)),f.mono λq C=>by omega,by simp at B;omega,p 0⟩
theorem KJ{w a c:World}{m:Nat}{v0 v1 v2 v3:Value}(d:Bx w.heap.size (ab 0) (ab 0) (af ⟨#[]⟩) (ae none 0 0) a)(b:Below ((a.alloc (.cells #[v0,v1,v2,v3] 28)).drewN m).heap.size ((a.alloc (.cells #[v0,v1,v2,v3] 28)).drewN m) c):Bx w.heap.size (ab 0) (ab 0) (af ⟨#[]⟩) (ae none 0 0) c/\Bx a.heap.size v0 v1 v2 v3 c:=by
 have e:=d.lt;exact⟨(d.block (fE _ _ e)).block (b.block _ (by simp;omega)),(Bx.new a v0 v1 v2 v3).block (b.block _ (by simp))⟩
theorem KK{s:ByteArray}{b e:Nat}{a:List Tok}{x:ByteArray}(g:s.extract b e=x)(d:(x.toList==[])=false)(c:At s b e a)(f:zn s.size (ex s 0) 0=ij s.size a 0):zn s.size (ex s 0) 0=some b:=by
 rw[f,<-c.pos];cases a with
 | nil=>rw[<-g]at d;simp[c.nil]at d
 | cons t a=>rfl
theorem KI{w w4 a:World}{n:Nat}{y:Tm n}(c:In w4.heap.size w4 n y)(k:cd (λq=>w.heap.size+2<=q) n y)(b:aj w4 a)(v0 v1 v2 v3:Value):In ((((a.setCell ⟨w.heap.size,0,none⟩ v0).setCell ⟨w.heap.size,1,none⟩ v1).setCell ⟨w.heap.size,2,none⟩ v2).setCell ⟨w.heap.size,3,none⟩ v3).heap.size ((((a.setCell ⟨w.heap.size,0,none⟩ v0).setCell ⟨w.heap.size,1,none⟩ v1).setCell ⟨w.heap.size,2,none⟩ v2).setCell ⟨w.heap.size,3,none⟩ v3) n y:=by
 rw[yh];exact In.off (λq d=>vV (by omega) _ _ _ _) k ((c.below b).mono b.size)
theorem p8{w w1:World}(a:aj w w1)(v0 v1 v2 v3:Value):aj w ((((w1.setCell ⟨w.heap.size,0,none⟩ v0).setCell ⟨w.heap.size,1,none⟩ v1).setCell ⟨w.heap.size,2,none⟩ v2).setCell ⟨w.heap.size,3,none⟩ v3):=
 ⟨a.os,a.tape,a.output,by rw[yh];exact a.size,λk b=>(vV (by omega) _ _ _ _).trans (a.block k b)⟩
theorem kT{B:Nat}{w w1:World}(a:Below B w w1)(m:Nat):Below B w (w1.drewN m):=⟨a.os,a.tape,a.output,a.size,a.block⟩
theorem lY{w w1:World}(a:aj w w1)(o:Obj):aj w (w1.alloc o):=a.alloc a.size o
theorem Hk(s:ByteArray)(w:World)(S:s.size<=maxLen):am 7 #[af s] w λe w'=>PZ s w w' e:=by
 unfold maxLen at S;by_cases D:2048<s.size
 ·have Q:(2048:Int)<s.size:=by omega
  go_enter func7,ntmps7;go_wp2_with fail;exact av (v:=.tuple #[oF,ab 0,ab 2]) (by simp[results,results7,go_sem,oF]) rfl ⟨0,0,⟨#[]⟩,none,0,0,0,2,rfl,ah ⟨D,rfl,rfl,rfl⟩,by go_grown⟩
 ·have Q:(s.size:Int)<=2048:=by omega
  have i:s.size<=2048:=by omega
  clear D;have P:Hid (Rd (w.heap.size+1) s 0 0 ((w.alloc (.cells #[ab 0,ab 0,af ⟨#[]⟩,ae none 0 0] 28)).alloc (.cells #[af s,ab 0,ab 0] 70))):=by
   have:=aE (w.alloc (.cells #[ab 0,ab 0,af ⟨#[]⟩,ae none 0 0] 28)) (.cells #[af s,ab 0,ab 0] 70);simpa [Hid,Rd]using this
  go_enter func7,ntmps7
  go_wp2_with (first
   | (go_at_call 27;refine(rv (w.heap.size+1) s 0 0 _ P (aI _) i).mono ?_;rintro o U ⟨rfl,B⟩)
   | (go_at_call 28;refine(Hv 2048 (w.heap.size+1) s _ _ (ex s 0) U B.1 (At.next (aI _)) i (az (lK s s.size 0 (by omega)) (by omega))).mono ?_;rintro o V ⟨k,A,t,y,l,c,ok,rfl,C⟩;obtain⟨q,an,G,H⟩:=Hj B.2 C.1;obtain⟨⟨K,L,M,N⟩,f0,f1,f2,f3⟩:=q.cells;have E:w.heap.size<V.heap.size:=(by omega);obtain⟨_,d,o,ay,b⟩:=C;replace b:=aq b;obtain⟨⟨W,X,Y⟩,ao,ap⟩:=b.out.1.cells;have HB:=aq (⟨G,H⟩:_/\_);replace q:=aq q;clear G H;obtain⟨r,F⟩:∃r,s.extract d o=r:=⟨_,rfl⟩;have x:=aq F;clear F;cases ok)
   | (go_at_call 29;refine(pe (w.heap.size+1) s d o r _ (b.1.alloc _) b.2.1.1 b.2.1.2.1 x).mono ?_;rintro Z aA ⟨rfl,m,rfl⟩;cases hc:(r.toList==[]))
   | (go_at_call 23;obtain⟨u,p,a⟩:=KL x hc i b.2.1 HB.2 (b.2.2.1 (by trivial)) _ m;replace a:=aq a;refine(show Calls _ _ #[.agg #[ab k,ab A,af t,ae y l c]] _ _ from p▸dC 2049 u _ _ a.2.1 (ak _) a.2.2.2.1).mono ?_;rintro aa aB ⟨rfl,h⟩;obtain⟨I,J⟩:=KJ q h;obtain⟨⟨y0,y1,y2,O⟩,ad,ag,aj,al⟩:=I.cells;obtain⟨⟨aC,aD,aF,aG⟩,ar,au,aw,ax⟩:=J.cells;have n:=aq h;clear I J h;replace p:=aq p;obtain⟨j,g⟩:∃j,bv 2049 u=j:=⟨_,rfl⟩;rw[g];replace g:=aq g;by_cases z:j=0))
  ·go_region;go_wp2_with fail;have f:=HB.1;exact av (v:=.tuple #[oF,ab d,ab 3]) (by simp[results,results7,go_sem,oF,E,K,L,M,N]) rfl ⟨0,0,⟨#[]⟩,none,0,0,d,3,rfl,ai (ah ⟨d,i,by rw[<-b.out.2.1.pos];exact b.2.2.2 (by trivial) 0,rfl,rfl,rfl⟩),by go_grown⟩
  ·go_region;go_wp2_with fail;have f:=HB.1;exact av (v:=.tuple #[oF,ab d,ab 3]) (by simp[results,results7,go_sem,oF,E,K,L,M,N]) rfl ⟨0,0,⟨#[]⟩,none,0,0,d,3,rfl,ai (ah ⟨d,i,KK x hc b.2.1 ((b.2.2.1 (by trivial)).2 0),rfl,rfl,rfl⟩),p8 (kT (lY f _) _) _ _ _ _⟩
  ·have f:=HB.1;have h:=n.out;exact av (v:=.tuple #[.agg #[ab k,ab A,af t,ae y l c],ab 0,ab 0]) (by simp[results,results7,go_sem,y0,y1,y2,O]) rfl ⟨k,A,t,y,l,c,0,0,rfl,ai (ai ⟨i,a.2.2.2.2,2049,u,a.1,KI a.2.1 a.2.2.1 n _ _ _ _,a.2.2.1.mono (λT R=>by omega),rfl,(g.trans z).symm,ai ⟨g.trans z,p⟩⟩),p8 ((kT (lY f _) m).trans (h.mono (kT (lY f _) m).size)) _ _ _ _⟩
  ·have f:=HB.1;have h:=n.out;exact av (v:=.tuple #[oF,ab 0,ab j]) (by simp[results,results7,go_sem,oF,y0,y1,y2,O]) rfl ⟨0,0,⟨#[]⟩,none,0,0,0,j,rfl,ai (ai ⟨i,a.2.2.2.2,2049,u,a.1,KI a.2.1 a.2.2.1 n _ _ _ _,a.2.2.1.mono (λT R=>by omega),rfl,g.symm,ah ⟨by rw[g.out];exact z,rfl⟩⟩),p8 ((kT (lY f _) m).trans (h.mono (kT (lY f _) m).size)) _ _ _ _⟩
def OG{a:Type}(f:a->List Tok->Option (List Tok)):List a->List Tok->Option (List Tok)
 | [],ts=>some ts
 | x::l,ts=>(f x ts).bind (OG f l)
def Qf:(n:Nat)->Tm n->List Tok->Option (List Tok)
 | 0,_,_=>none
 | _+1,_,[]=>none
 | n+1,x,t::ts=>if wK t.2=true then if x.1=(4,0,⟨#[]⟩)then (OG (Qf n) x.2.2 ts).bind λr=>match r with
    | []=>none
    | c::r=>if vh c.2=true then some r else none else none
  else if dI t.2=true/\x.1=fI t.2/\x.2.2.length=0 then some ts else none
theorem Fm{b:Type}{f:b->List Tok->Option (List Tok)}{g:b->List Tok->List Tok->Prop}(c:∀x a r,f x a=some r->g x a r):(l:List b)->∀{a r:List Tok},OG f l a=some r->yG g l a r
 | [],a,r,e=>by
  have e:some a=some r:=e;exact aw e
 | x::l,a,r,e=>by
  obtain⟨m,d,h⟩:=bB.1 e;exact⟨m,c x a m d,Fm c l h⟩
theorem vi:(n:Nat)->(x:Tm n)->(e r:List Tok)->Qf n x e=some r->Is n x e r
 | 0,_,_,_,h=>by cases h
 | _+1,_,[],_,h=>by cases h
 | n+1,x,t::e,r,h=>by
  unfold Qf at h;refine⟨t,e,rfl,?_⟩;by_cases d:wK t.2=true
  ·rw[if_pos d]at h;by_cases g:x.1=(4,0,⟨#[]⟩)
   ·rw[if_pos g]at h;obtain⟨m,i,a⟩:=bB.1 h;cases m with
    | nil=>cases a
    | cons c m=>
     simp only at a;by_cases f:vh c.2=true
     ·rw[if_pos f]at a;obtain rfl:=aw a;exact ai ⟨d,g,c,Fm (vi n) x.2.2 i,f⟩
     ·rw[if_neg f]at a;cases a
   ·rw[if_neg g]at h;cases h
  ·rw[if_neg d]at h;by_cases b:dI t.2=true/\x.1=fI t.2/\x.2.2.length=0
   ·rw[if_pos b]at h;exact ah ⟨by simpa using d,b.1,b.2.1,bF b.2.2,(aw h).symm⟩
   ·rw[if_neg b]at h;cases h
def ng(s:ByteArray)(n:Nat)(y:Tm n):Prop:=s.size<=2048/\zn s.size (ex s 0) 0=none/\Is n y (ex s 0) []
theorem vK{s:ByteArray}{n:Nat}{y:Tm n}(i:ng s n y)(u:bv n y=0)(w:World):am 7 #[af s] w λe w'=>∃(m:Nat)(x:Tm (m+1)),e=.returned (.tuple #[.agg #[ab x.1.1,ab x.1.2.1,af x.1.2.2,ae x.2.1.1 x.2.2.length x.2.1.2],ab 0,ab 0])/\Hid (ay (m+1) x n y=true/\In w'.heap.size w' (m+1) x/\cd (λq=>w.heap.size<=q) (m+1) x/\aj w w'):=by
 obtain⟨j,o,p⟩:=i;refine(Hk s w (az j (by unfold maxLen;omega))).mono ?_;rintro e w' ⟨k,E,t,B,l,c,pos,C,rfl,h⟩;obtain⟨z,r⟩:=h;rcases z with⟨a,_⟩|⟨D,_,a,_⟩|⟨_,_,m,x,A,f,v,rfl,rfl,b⟩
 ·omega
 ·rw[o]at a;cases a
 ·have g:=(Is.one m n x y _ _ _ A p).1;have d:bv m x=0:=by
   rw[Ic m n x y g];exact u
  rcases b with⟨a,_⟩|⟨_,b⟩
  ·exact absurd d a
  ·cases m with
   | zero=>exact f.elim
   | succ m=>
    rw[d,b];exact⟨m,x,rfl,g,f,v,r⟩
def Lx:ByteArray:=⟨#[40,99,111,100,101,32,40,98,101,104,32,99,111,117,110,116,32,40,111,110,32,36,48,32,40,117,112,32,36,49,41,32,40,41,32,40,97,100,100,32,36,48,32,36,49,41,41,32,40,111,110,32,36,48,32,40,97,115,107,32,36,49,41,32,40,40,115,101,110,100,32,36,49,32,40,104,97,118,101,32,36,48,41,41,41,32,36,48,41,32,40,111,110,32,95,32,102,111,114,107,32,40,40,115,112,97,119,110,32,99,111,117,110,116,32,48,32,36,48,41,32,40,108,105,110,107,32,36,48,41,32,40,115,101,110,100,32,36,48,32,40,117,112,32,55,41,41,41,32,49,41,32,40,111,110,32,95,32,115,116,111,112,32,40,40,115,116,111,112,41,41,32,48,41,32,40,111,110,32,95,32,98,97,100,32,40,41,32,40,97,100,100,32,97,32,97,41,41,41,41]⟩
def Qj:ByteArray:=⟨#[40,117,112,32,51,41]⟩
def O0:ByteArray:=⟨#[102,111,114,107]⟩
def PF:ByteArray:=⟨#[98,97,100]⟩
theorem Nv:ng Lx 7 (bK 1 fG):=⟨by decide,by kernel_rfl,vi _ _ _ _ (by kernel_rfl)⟩
theorem PG:ng Qj 13 vB:=⟨by decide,by kernel_rfl,vi _ _ _ _ (by kernel_rfl)⟩
theorem Nx:ng O0 13 (aZ tw 12):=⟨by decide,by kernel_rfl,vi _ _ _ _ (by kernel_rfl)⟩
theorem O1:ng PF 13 (aZ CF 12):=⟨by decide,by kernel_rfl,vi _ _ _ _ (by kernel_rfl)⟩
theorem qD:bv 7 (bK 1 fG)=0/\bv 13 vB=0/\bv 13 (aZ tw 12)=0/\bv 13 (aZ CF 12)=0:=⟨by kernel_rfl,by kernel_rfl,by kernel_rfl,by kernel_rfl⟩
theorem AW(xs:List Value)(g len c:Nat)(w:World)(v:Hid (xs.length=len*7))(t:Hid (∀d∈xs,d.oneCell'=true))(E:len<=2000000)(x:Hid (∀w1,aj w w1->∀j d,xs[j]?=some d->w1.cell? ((⟨g,0,none⟩:Addr).add j)=some d)):am 77 #[ae (some ⟨g,0,none⟩) len c] w λe w'=>∃r,e=.returned r/\Hid (aj w w'/\w'.ownsRow w.heap.size 82 7 r len xs):=by
 obtain⟨C,l,o,p,q⟩:=bP Kb;have a:=aq (⟨l,o,p,q⟩:_/\_/\_/\_);clear l o p q;have F:∀(w:World)(b:Option Addr)(n c h f:Nat),(binOp .eql 44 (ae b n c) (ae none h f)).run Tryz.prog w=.ok (.bool b.isNone) w:=λw b n c h f=>Lib.run_eql_slice_nil w _ _ b n c h f underlying44;have D:(some (⟨g,0,none⟩:Addr)).isNone=false:=rfl;go_enter func77,ntmps77;go_wp2_with (at_builtin;refine wpList_append_own _ rfl _ _ 44 rfl w.heap.size 82 C _ 7 88 underlying44 a.1 a.2.1 a.2.2.1 a.2.2.2 rfl (by decide) _ _ _ rfl (World.ownsRow_made w #[] 0 (ak _) (aI _) (by simp)) ⟨g,0,none⟩ len c xs rfl ?qc1 ?qc2 ?qc3 ?qc4 ?qc5 ?qc6 ?_)
 case qc1=>exact v
 case qc2=>exact x _ ((ap _ _).alloc (ak _) _)
 case qc3=>exact t
 case qc4=>unfold maxLen;omega
 case qc5=>omega
 case qc6=>simp
 intro s w1 m i A;have u:Hid (aj w w1/\w1.ownsRow w.heap.size 82 7 s len xs):=by
  have y:aj w w1:=Below.grown ((ap _ _).alloc (ak _) _) i (by simp) (by intro k z;simp[Value.ownBlock]at z;omega);have B:w1.ownsRow w.heap.size 82 7 s len xs:=by simpa using m
  exact⟨y,B⟩
 clear m i A;go_wp2_with fail
 go_ret
 exact⟨_,rfl,u⟩
theorem AV(c:Nat)(w:World):am 77 #[ae none 0 c] w λe w'=>e=.returned (ae none 0 0)/\w'=w:=by
 have g:∀(w:World)(a:Option Addr)(n c d b:Nat),(binOp .eql 44 (ae a n c) (ae none d b)).run Tryz.prog w=.ok (.bool a.isNone) w:=λw a n c d b=>Lib.run_eql_slice_nil w _ _ a n c d b underlying44;have f:(none:Option Addr).isNone=true:=rfl;go_enter func77,ntmps77;go_wp2_with fail
 go_ret
 exact⟨rfl,rfl⟩
theorem JY(h:Nat)(q:Option Addr)(L d:Nat)(v x:Nat->Int)(y:Nat->ByteArray)(xa:Nat->Option Addr)(z xc:Nat->Nat)(w:World)(k:Option Addr->Nat->Nat->World->Prop)(E:h<w.heap.size)(N:L<=1000000)(O:L<=d)(F:q=none/\L=0/\d=0\/∃g,q=some ⟨g,0,none⟩)(r:Hid (w.cell? ⟨h,6,none⟩=some (ae q L d)))(s:Hid (∀W,aj w W->am 77 #[ae q L d] W λe w'=>∃a c,e=.returned (ae a L c)/\Hid (aj W w'/\k a c 0 w')))(t:Hid (∀a c j W,j<L->k a c j W->∃g,a=some ⟨g,0,none⟩/\W.cell? ⟨g,j*7+3,none⟩=some (ab (v j))/\W.cell? ⟨g,j*7+3+1,none⟩=some (ab (x j))/\W.cell? ⟨g,j*7+3+2,none⟩=some (af (y j))/\W.cell? ⟨g,j*7+3+3,none⟩=some (ae (xa j) (z j) (xc j))/\ Hid (am 24 #[.agg #[ab (v j),ab (x j),af (y j),ae (xa j) (z j) (xc j)]] W λe w'=>∃y0 y1 y2 ya yl yc,e=.returned (.agg #[ab y0,ab y1,af y2,ae ya yl yc])/\Hid ((w'.frozen? ⟨g,j*7+3,none⟩=false/\w'.frozen? ⟨g,j*7+3+1,none⟩=false/\w'.frozen? ⟨g,j*7+3+2,none⟩=false/\w'.frozen? ⟨g,j*7+3+3,none⟩=false)/\(w'.cell? ⟨g,j*7+3,none⟩=some (ab (v j))/\w'.cell? ⟨g,j*7+3+1,none⟩=some (ab (x j))/\w'.cell? ⟨g,j*7+3+2,none⟩=some (af (y j))/\w'.cell? ⟨g,j*7+3+3,none⟩=some (ae (xa j) (z j) (xc j)))/\k a c (j+1) (cW w' g (j*7+3) (ab y0) (ab y1) (af y2) (ae ya yl yc)))))):am 37 #[aB h,ab 0] w λe w'=>∃a c,e=.returned (ae a L c)/\Hid (k a c L w'):=by
 have b:Hid (aj w w.drew):=(ap _ _).drew;have i:Hid (∀W,aj w W->W.cell? ⟨h,6,none⟩=some (ae q L d)):=λW C=>(C.cell (p:=⟨h,6,none⟩) E).trans r;have M:=r.out;have S:¬((L:Int)<0):=by omega
 have T:(0:Int)<=(L:Int):=by omega
 have U:(L:Int)<=(d:Int):=by omega
 have V:¬((d:Int)<(L:Int)):=by omega
 have X:¬(d<L):=by omega
 have Y:min (0:Int) (L:Int)=0:=by omega
 go_enter func37,ntmps37;go_upto_region 1 with fail;rcases F with⟨rfl,rfl,rfl⟩|⟨B,rfl⟩
 ·go_region_held3 (λW=>W.cell? ⟨h,6,none⟩=some (ae none 0 0)) (first|exact i _ b|exact i _ m) ((first
    | (go_at_call 77;refine(s _ b).mono ?_;rintro e G ⟨a,c,rfl,f⟩;have m:=aq (b.trans (f.1.mono b.size)))))
  have l:=aq f.2;clear s r i b m t f;go_wp2_with fail;go_loopw [6,23] (λ_ o wr=>o=ab 0/\Hid (k a c 0 wr)) (λ_ _ _=>0)
  case atStart=>exact⟨rfl,l⟩
  case round=>
  obtain⟨rfl,n⟩:=hrel;clear l;go_wp2_with fail
  go_ret
  exact⟨a,c,rfl,n⟩
 ·go_region_held3 (λW=>W.cell? ⟨h,6,none⟩=some (ae (some ⟨B,0,none⟩) L d)) (first|exact i _ b|exact i _ m) ((first
    | (go_at_call 77;refine(s _ b).mono ?_;rintro e G ⟨a,c,rfl,f⟩;have m:=aq (b.trans (f.1.mono b.size)))))
  clear s r i b m;have l:=aq f.2;clear f;go_wp2_with fail;go_loopw [6,23] (λ_ o wr=>∃(j:Nat),j<=L/\o=ab j/\Hid (k a c j wr)) (λ_ o _=>L-(intOf o).toNat)
  case atStart=>exact⟨0,aI _,rfl,l⟩
  case round=>
  obtain⟨j,P,rfl,n⟩:=hrel;by_cases D:j<L
  ·obtain⟨g,rfl,H,I,J,K,A⟩:=t.out a c j wr D n;have Q:(0:Int)<=(j:Int):=by omega
   have R:(j:Int)<(L:Int):=by omega
   clear t n;go_wp2_with fail;refine A.mono ?_;rintro e Z ⟨y0,y1,y2,ya,yl,yc,rfl,u⟩;obtain⟨⟨f0,f1,f2,f3⟩,d0,d1,d2,d3⟩:=(⟨u.1,u.2.1⟩:_/\_);go_wp2_with fail;go_roundw
   case rel=>exact⟨j+1,by omega,by go_num,u.2.2⟩
   case measure=>simp[intOf];omega
  ·obtain rfl:j=L:=by omega
   clear t l;go_wp2_with fail
   go_ret
   exact⟨a,c,rfl,n⟩
end Go.Proofs.YtmmahddlcldmiaaGreatDoor
