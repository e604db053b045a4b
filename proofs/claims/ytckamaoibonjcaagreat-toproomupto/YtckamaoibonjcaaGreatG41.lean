/- What is proved here: plain facts and contracts that the claimed theorem stands on. No condition but those that each names. -/
import Derived.Test.YtckamaoibonjcaaGreatG07
import Derived.BigQuiet
import Derived.Test.YtckamaoibonjcaaGreatG05
namespace Go.Proofs.YtckamaoibonjcaaGreat
open Go.RowKit
set_option maxHeartbeats 8000000
def tY(c:UInt8):Bool:=decide (48<=(c.toNat:Int)) && decide ((c.toNat:Int)<=57)
def ip(l:List UInt8):Bool:=l.all tY
def kR(l:List UInt8):Int:=l.foldl (λn c=>10*n+((c.toNat:Int)-48)) 0
def eC(s:ByteArray)(m:Int):Bool:=decide (1<=(s.size:Int)) && decide ((s.size:Int)<=m) && !(s.data.toList[0]?==some 48 && decide (1<(s.size:Int))) && ip s.data.toList
theorem tZ(s:ByteArray)(k:Nat)(a:k<s.size):ip (s.data.toList.take (k+1))=(ip (s.data.toList.take k) && tY s[k]):=by
 rw[rX s k a];simp[ip]
theorem FQ(s:ByteArray)(k:Nat)(a:k<s.size):kR (s.data.toList.take (k+1))=10*kR (s.data.toList.take k)+((s[k].toNat:Int)-48):=by
 rw[rX s k a];simp[kR]
theorem CM(l:List UInt8):ip l=true->0<=kR l/\kR l<10 ^ l.length:=by
 suffices g:∀(l:List UInt8)(a:Int)(b:Nat),ip l=true->0<=a->a<10 ^ b->0<=l.foldl (λn c=>10*n+((c.toNat:Int)-48)) a/\l.foldl (λn c=>10*n+((c.toNat:Int)-48)) a<10 ^ (b+l.length) by
  intro d;have:=g l 0 0 d (by omega) (by simp);simpa [kR]using this
 intro l
 induction l with
 | nil=>intro a b _ e f;exact⟨e,f⟩
 | cons c l ih=>
  intro a b d e f;simp only[ip,iO,aA,tY,bU]at d;have:=ih (10*a+((c.toNat:Int)-48)) (b+1) (by simp only[ip];exact d.2) (by omega) (by rw[Int.pow_succ];omega);simp only[fH,aZ];rw[show b+(l.length+1)=b+1+l.length by omega];exact this
theorem CN(s:ByteArray)(k:Nat)(d:k<=14)(c:ip (s.data.toList.take k)=true):0<=kR (s.data.toList.take k)/\kR (s.data.toList.take k)<100000000000000:=by
 have a:=CM _ c;refine⟨a.1,Int.lt_of_lt_of_le a.2 ?_⟩;have:(10:Int) ^ (s.data.toList.take k).length<=10 ^ 14:=by
  have b:(10:Nat) ^ (s.data.toList.take k).length<=10 ^ 14:=Nat.pow_le_pow_right (by omega) (by simp;omega)
  exact_mod_cast b
 simpa using this
theorem vY(s:ByteArray)(k:Nat)(a:k<s.size)(c:tY s[k]=false):ip s.data.toList=false:=by
 have b:ip s.data.toList=(ip (s.data.toList.take (k+1)) && ip (s.data.toList.drop (k+1))):=by
  conv=>lhs;rw[<-jp (k+1) s.data.toList]
  simp only[ip,kh]
 rw[b,tZ s k a,c];simp
theorem qB(s:ByteArray)(a:0<s.size):s.data.toList[0]?=some s[0]:=by
 rw[aH (by simpa using a)];rfl
theorem MV(s:ByteArray)(e:0<s.size)(f:s[0]=48):(s.toList==[48])=decide (¬1<s.size):=by
 rw[b8];have b:=qB s e;rw[f]at b;have a:s.data.toList.length=s.size:=by simp
 cases d:s.data.toList with
 | nil=>rw[d]at a;simp at a;omega
 | cons c l=>
  rw[d]at b a;simp at b;subst b;cases l with
  | nil=>simp at a;simp;omega
  | cons g l=>simp at a;simp;omega
theorem Bl{s:ByteArray}(b:0<s.size):s.toList.isEmpty=false:=by
 rw[b8,List.isEmpty_eq_false_iff];intro a;have:s.data.toList.length=s.size:=by simp
 rw[a]at this;simp at this;omega
theorem Bk{s:ByteArray}(a:¬0<s.size):s.toList.isEmpty=true:=by
 rw[b8,List.isEmpty_iff];apply bH;have:s.data.toList.length=s.size:=by simp
 omega
theorem jL{c:UInt8}{k:Nat}{d:UInt8}(b:d.toNat=k)(a:¬c=d):¬((c.toNat:Int)=k):=λe=>a (UInt8.toNat.inj (by omega))
def Mv(s:ByteArray)(m:Int)(e:Ending):Prop:=
 ∃(a:Int)(b:Bool),e=.returned (.tuple #[ab a,.bool b])/\Hid (b=eC s m/\0<=a/\a<100000000000000/\(b=true->a=kR s.data.toList))
theorem nI(s:ByteArray)(m:Int)(w:World)(E:s.size<=9223372036854775807)(D:m<=13):am 128 #[af s,ab m] w λe w'=>Mv s m e/\w'=w:=by
 go_enter Tryz.func128,Tryz.ntmps128;by_cases g:0<s.size
 ·have n:=Bl g;have B:(s.toList=[])=False:=by simpa using n
  by_cases l:(s.size:Int)<=m
  ·have A:decide (m<(s.size:Int))=false:=by simp;omega
   have i:s[0]=48->(s.toList==[48])=decide (¬1<s.size):=MV s g;by_cases c:s[0]=48/\1<s.size
   ·obtain⟨c,a⟩:=c;have j:(s.toList==[48])=false:=by rw[i c];simp;omega
    have b:Hid (eC s m=false):=by simp[Hid,eC,qB s g,c];omega
    clear i;go_wp2_with fail
    all_goals go_ret2
    all_goals exact⟨⟨0,false,rfl,b.out.symm,by omega,by omega,by simp⟩,rfl⟩
   ·have b:Hid (eC s m=ip s.data.toList):=by
      simp only[Hid,eC];rw[qB s g];by_cases a:s[0]=48
      ·have:¬1<s.size:=λf=>c ⟨a,f⟩;simp[l];omega
      ·simp[l,a];omega
    have j:(s[0]=48/\(s.toList==[48])=true)\/¬((s[0].toNat:Int)=48):=by
     by_cases a:s[0]=48
     ·exact ah ⟨a,by rw[i a];simp;have:¬1<s.size:=λf=>c ⟨a,f⟩
                        omega⟩
     ·exact ai (jL (k:=48) rfl a)
    clear i c;rcases j with⟨a,j⟩|j
    all_goals
     go_wp2_with fail
     go_loop [6,7] (λt p=>∃k:Nat,∃h:Int,k<=s.size/\p=ab k/\t=ab h/\Hid (h=kR (s.data.toList.take k)/\ip (s.data.toList.take k)=true)) (λ_ p=>s.size-(intOf p).toNat)
     case atStart=>exact⟨0,0,aE _,rfl,rfl,by simp[Hid,ip,kR]⟩
     case round=>
      obtain⟨k,h,C,rfl,rfl,d⟩:=hrel;have u:=CN s k (by omega) d.out.2;rw[<-d.out.1]at u;obtain⟨F,G⟩:=u;by_cases o:k<s.size
      ·have y:=ao (tZ s k o);have z:=ao (FQ s k o);have q:Hid (tY s[k]=false->false=eC s m):=λf=>by rw[b.out,vY s k o f]
       by_cases d1:48<=(s[k].toNat:Int)
       ·by_cases r:(s[k].toNat:Int)<=57
        ·go_wp2_with fail
         go_round
         case rel=>exact⟨k+1,10*h+((s[k].toNat:Int)-48),by omega,by go_num,by go_num,by rw[z.out,d.out.1],by rw[y.out,d.out.2];simp[tY,d1,r]⟩
         case measure=>simp[intOf];omega
        ·go_wp2_with fail
         go_ret2
         exact⟨⟨0,false,rfl,q.out (by simp[tY,r]),by omega,by omega,by simp⟩,rfl⟩
       ·go_wp2_with fail
        go_ret2
        exact⟨⟨0,false,rfl,q.out (by simp[tY];omega),by omega,by omega,by simp⟩,rfl⟩
      ·go_wp2_with fail
       go_ret2
       have v:s.data.toList.take k=s.data.toList:=bC (by simp;omega);refine⟨⟨h,true,rfl,?_,by omega,by omega,λ_=>?_⟩,rfl⟩
       ·rw[b.out,<-v,d.out.2]
       ·rw[d.out.1,v]
  ·have A:m<(s.size:Int):=by omega
   have b:Hid (eC s m=false):=by simp[Hid,eC,l]
   go_wp2_with fail
   all_goals go_ret2
   all_goals exact⟨⟨0,false,rfl,b.out.symm,by omega,by omega,by simp⟩,rfl⟩
 ·have n:=Bk g;have B:(s.toList=[])=True:=by simpa using n
  have x:s.size=0:=by omega
  have b:Hid (eC s m=false):=by simp[Hid,eC,x]
  clear x;go_wp2_with fail
  all_goals go_ret2
  all_goals exact⟨⟨0,false,rfl,b.out.symm,by omega,by omega,by simp⟩,rfl⟩
def g8(s:ByteArray):ByteArray:=s.extract 1 s.size
def fk(s:ByteArray):Bool:=
 if s.data.toList[0]?=some 35 then eC (g8 s) 2
 else if s.data.toList[0]?=some 36 then eC (g8 s) 2
 else if s.data.toList[0]?=some 45 then eC (g8 s) 13 && !(kR (g8 s).data.toList==0)
 else if s.toList==[95]then true
 else if eC s 13 then true
 else decide (0<s.size) && fV s.data.toList
def kK(s:ByteArray):Int×Int×ByteArray:=
 if s.data.toList[0]?=some 35 then (3,kR (g8 s).data.toList,⟨#[]⟩)
 else if s.data.toList[0]?=some 36 then (5,kR (g8 s).data.toList,⟨#[]⟩)
 else if s.data.toList[0]?=some 45 then (1,-kR (g8 s).data.toList,⟨#[]⟩)
 else if s.toList==[95]then (6,0,⟨#[]⟩)
 else if eC s 13 then (1,kR s.data.toList,⟨#[]⟩)
 else (2,0,s)
def Kk(s:ByteArray)(e:Ending):Prop:=
 ∃(k a:Int)(t:ByteArray)(b:Bool),e=.returned (.tuple #[.agg #[ab k,ab a,af t,ae none 0 0],.bool b])/\Hid (b=fk s/\(b=true->(k,a,t)=kK s)/\t.size<=s.size/\dn k/\dn a)
theorem Dt(s:ByteArray):(g8 s).size<=s.size:=by simp[g8]
def Mt(k:Int)(s:ByteArray)(e:Ending):Prop:=
 ∃(a:Int)(b:Bool),e=.returned (.tuple #[.agg #[ab k,ab a,af ⟨#[]⟩,ae none 0 0],.bool b])/\Hid (b=eC s 2/\0<=a/\a<100000000000000/\(b=true->a=kR s.data.toList))
theorem qJ(k:Int)(s:ByteArray)(w:World)(c:s.size<=9223372036854775807):am 127 #[ab k,af s] w λe w'=>Mt k s e/\aj w w':=by
 go_enter Tryz.func127,Tryz.ntmps127;go_wp2_with (go_at_call 128;refine(nI _ _ _ c (by omega)).mono ?_;rintro e w' ⟨⟨v,b,rfl,a⟩,rfl⟩);exact av (v:=.tuple #[.agg #[ab k,ab v,af ⟨#[]⟩,ae none 0 0],.bool b]) (by simp[results,Tryz.results127,go_sem]) rfl ⟨⟨v,b,rfl,a⟩,by go_grown⟩
theorem E5(s:ByteArray)(w:World)(b:s.size<=2048):am 41 #[af s] w λe w'=>e=.returned (af s)/\aj w w':=by
 go_enter Tryz.func41,Tryz.ntmps41;go_wp2_with (go_at_call 67;refine(Tryz.stringslite_Clone s w (by omega)).mono ?_;rintro e w' ⟨rfl,a⟩)
 go_ret
 exact⟨rfl,a⟩
theorem Ff(s:ByteArray)(a:0<s.size)(b:tY s[0]=false)(m:Int):eC s m=false:=by simp[eC,vY s 0 a b]
theorem FJ(s:ByteArray)(a:0<s.size)(c:yk s[0]=false):fV s.data.toList=false:=by
 have b:fV s.data.toList=(fV (s.data.toList.take 1) && fV (s.data.toList.drop 1)):=by
  conv=>lhs;rw[<-jp 1 s.data.toList]
  simp only[fV,kh]
 rw[b,uy s 0 a,c];simp
theorem MC(s:ByteArray)(d:0<s.size)(b:¬s[0]=95):(s.toList==[95])=false:=by
 rw[b8];have a:=qB s d;cases hl:s.data.toList with
 | nil=>rfl
 | cons c l=>
  rw[hl]at a;simp at a;rw[<-a]at b;simp[b]
def oV(k a:Int)(t:ByteArray):Value:=.agg #[ab k,ab a,af t,ae none 0 0]
theorem dl{a:Int}(b: -100000000000000<=a)(c:a<=100000000000000):dn a:=⟨by omega,by omega⟩
theorem xE{w w':World}{v0 v1 v2 v3:Value}{t:TypeId}(c:Below (w.alloc (.cells #[v0,v1,v2,v3] t)).heap.size (w.alloc (.cells #[v0,v1,v2,v3] t)) w'):(w'.cell? ⟨w.heap.size,0,none⟩=some v0/\w'.cell? ⟨w.heap.size,1,none⟩=some v1/\w'.cell? ⟨w.heap.size,2,none⟩=some v2/\w'.cell? ⟨w.heap.size,3,none⟩=some v3)/\ (w'.frozen? ⟨w.heap.size,0,none⟩=false/\w'.frozen? ⟨w.heap.size,1,none⟩=false/\w'.frozen? ⟨w.heap.size,2,none⟩=false/\w'.frozen? ⟨w.heap.size,3,none⟩=false):=by
 have a:=λo=>c.cell (p:=⟨w.heap.size,o,none⟩) (by simp);have b:=λo=>c.frozen (p:=⟨w.heap.size,o,none⟩) (by simp);exact⟨⟨(a 0).trans (by simp[go_sem]),(a 1).trans (by simp[go_sem]),(a 2).trans (by simp[go_sem]),(a 3).trans (by simp[go_sem])⟩,(b 0).trans (by simp[go_sem]),(b 1).trans (by simp[go_sem]),(b 2).trans (by simp[go_sem]),(b 3).trans (by simp[go_sem])⟩
theorem Cs{w w':World}{o:Obj}(e:Below (w.alloc o).heap.size (w.alloc o) w')(a b c d:Value):aj w ((((w'.setCell ⟨w.heap.size,0,none⟩ a).setCell ⟨w.heap.size,1,none⟩ b).setCell ⟨w.heap.size,2,none⟩ c).setCell ⟨w.heap.size,3,none⟩ d):=by
 have f:aj w w':=((ap _ _).alloc (ak _) _).trans (e.mono (by simp))
 go_grown
theorem Ge(s:ByteArray)(w:World)(C:s.size<=2048):am 95 #[af s] w λe w'=>Kk s e/\aj w w':=by
 have K:=Dt s;by_cases g:0<s.size
 ·have p:=Bl g;have A:(s.toList=[])=False:=by simpa using p
  have i:=ao (qB s g);have J:(1:Int)<=s.size:=by omega
  by_cases j:s[0]=95
  ·have c:Hid (fk s=(s.toList==[95])/\((s.toList==[95])=true->kK s=(6,0,⟨#[]⟩))):=by
     simp only[Hid,fk,kK,i.out,j,Ff s g (by simp[tY,j]) 13,FJ s g (by simp[yk,j])];cases h:(s.toList==[95])<;>simp
   go_enter Tryz.func95,Tryz.ntmps95;go_wp2_with fail;exact av (v:=.tuple #[oV 6 0 ⟨#[]⟩,.bool (s.toList==[95])]) (by simp[results,Tryz.results95,go_sem,oV]) rfl ⟨⟨6,0,⟨#[]⟩,_,rfl,c.out.1.symm,λh=>(c.out.2 h).symm,aE _,dl (by omega) (by omega),dl (by omega) (by omega)⟩,by go_grown⟩
  ·have d1:=jL (k:=95) (d:=95) rfl j;by_cases q:s[0]=35
   ·have c:Hid (fk s=eC (g8 s) 2/\kK s=(3,kR (g8 s).data.toList,⟨#[]⟩)):=by
      simp[Hid,fk,kK,i.out,q]
    go_enter Tryz.func95,Tryz.ntmps95;go_wp2_with (go_at_call 127;refine(qJ 3 (g8 s) _ (by omega)).mono ?_;rintro e w' ⟨⟨v,b,rfl,a⟩,f⟩;obtain⟨⟨l,m,n,o⟩,u,x,y,z⟩:=xE f;have HB:=ao (Cs f);clear f);exact av (v:=.tuple #[oV 3 v ⟨#[]⟩,.bool b]) (by simp[results,Tryz.results95,go_sem,oV,l,m,n,o]) rfl ⟨⟨3,v,⟨#[]⟩,_,rfl,by rw[c.out.1,a.out.1],λh=>by rw[c.out.2,a.out.2.2.2 h],aE _,dl (by omega) (by omega),dl (by have:=a.out.2.1;omega) (by have:=a.out.2.2.1;omega)⟩,HB.out _ _ _ _⟩
   ·have G:=jL (k:=35) (d:=35) rfl q;by_cases r:s[0]=36
    ·have c:Hid (fk s=eC (g8 s) 2/\kK s=(5,kR (g8 s).data.toList,⟨#[]⟩)):=by
       simp[Hid,fk,kK,i.out,r]
     go_enter Tryz.func95,Tryz.ntmps95;go_wp2_with (go_at_call 127;refine(qJ 5 (g8 s) _ (by omega)).mono ?_;rintro e w' ⟨⟨v,b,rfl,a⟩,f⟩;obtain⟨⟨l,m,n,o⟩,u,x,y,z⟩:=xE f;have HB:=ao (Cs f);clear f);exact av (v:=.tuple #[oV 5 v ⟨#[]⟩,.bool b]) (by simp[results,Tryz.results95,go_sem,oV,l,m,n,o]) rfl ⟨⟨5,v,⟨#[]⟩,_,rfl,by rw[c.out.1,a.out.1],λh=>by rw[c.out.2,a.out.2.2.2 h],aE _,dl (by omega) (by omega),dl (by have:=a.out.2.1;omega) (by have:=a.out.2.2.1;omega)⟩,HB.out _ _ _ _⟩
    ·have H:=jL (k:=36) (d:=36) rfl r;by_cases t:s[0]=45
     ·have c:Hid (fk s=(eC (g8 s) 13 && !(kR (g8 s).data.toList==0))/\kK s=(1,-kR (g8 s).data.toList,⟨#[]⟩)):=by
        simp[Hid,fk,kK,i.out,t]
      go_enter Tryz.func95,Tryz.ntmps95;go_wp2_with (go_at_call 128;refine(nI (g8 s) 13 _ (by omega) (by omega)).mono ?_;rintro e w' ⟨⟨v,b,rfl,a⟩,rfl⟩;obtain⟨E,F⟩:=(⟨a.out.2.1,a.out.2.2.1⟩:0<=v/\v<100000000000000);cases b)
      ·exact av (v:=.tuple #[oV 1 (-v) ⟨#[]⟩,.bool false]) (by simp[results,Tryz.results95,go_sem,oV]) rfl ⟨⟨1,-v,⟨#[]⟩,_,rfl,by rw[c.out.1,<-a.out.1];rfl,by simp,aE _,dl (by omega) (by omega),dl (by omega) (by omega)⟩,by go_grown⟩
      ·exact av (v:=.tuple #[oV 1 (-v) ⟨#[]⟩,.bool (v !=0)]) (by simp[results,Tryz.results95,go_sem,oV]) rfl ⟨⟨1,-v,⟨#[]⟩,_,rfl,by rw[c.out.1,<-a.out.1,<-a.out.2.2.2 (by trivial)];simp[bne],λ_=>by rw[c.out.2,a.out.2.2.2 (by trivial)],aE _,dl (by omega) (by omega),dl (by omega) (by omega)⟩,by go_grown⟩
     ·have I:=jL (k:=45) (d:=45) rfl t;have c:Hid (fk s=(eC s 13 || fV s.data.toList)/\(kK s=if eC s 13=true then (1,kR s.data.toList,⟨#[]⟩)else (2,0,s))):=by
       simp only[Hid,fk,kK,i.out,MC s g j];simp[q,r,t];cases eC s 13<;>simp[g]
      go_enter Tryz.func95,Tryz.ntmps95
      go_wp2_with (first
       | (go_at_call 128;refine(nI s 13 _ (by omega) (by omega)).mono ?_;rintro e w' ⟨⟨v,b,rfl,a⟩,rfl⟩;obtain⟨E,F⟩:=(⟨a.out.2.1,a.out.2.2.1⟩:0<=v/\v<100000000000000);cases b)
       | (go_at_call 41;refine(E5 s _ C).mono ?_;rintro e L ⟨rfl,f⟩;obtain⟨⟨l,m,n,o⟩,u,x,y,z⟩:=xE f;have HB:=ao (Cs f);clear f)
       | (go_at_call 96;refine(sw s _ (by omega)).mono ?_;rintro e M ⟨rfl,rfl⟩))
      ·exact av (v:=.tuple #[oV 2 0 s,.bool (fV s.data.toList)]) (by simp[results,Tryz.results95,go_sem,oV,l,m,n,o]) rfl ⟨⟨2,0,s,_,rfl,by rw[c.out.1,<-a.out.1];rfl,λ_=>by rw[c.out.2,<-a.out.1];rfl,ak _,dl (by omega) (by omega),dl (by omega) (by omega)⟩,HB.out _ _ _ _⟩
      ·exact av (v:=.tuple #[oV 1 v ⟨#[]⟩,.bool true]) (by simp[results,Tryz.results95,go_sem,oV]) rfl ⟨⟨1,v,⟨#[]⟩,_,rfl,by rw[c.out.1,<-a.out.1];rfl,λ_=>by rw[c.out.2,<-a.out.1,a.out.2.2.2 (by trivial)];rfl,aE _,dl (by omega) (by omega),dl (by omega) (by omega)⟩,by go_grown⟩
 ·have p:=Bk g;have A:(s.toList=[])=True:=by simpa using p
  have c:Hid (fk s=false):=by
   have D:s.size=0:=by omega
   have B:s.data.toList=[]:=by rw[<-b8];simpa using p
   simp[Hid,fk,b8,eC,B,D]
  go_enter Tryz.func95,Tryz.ntmps95;go_wp2_with fail;exact av (v:=.tuple #[oV 0 0 ⟨#[]⟩,.bool false]) (by simp[results,Tryz.results95,go_sem,oV]) rfl ⟨⟨0,0,⟨#[]⟩,_,rfl,c.out.symm,by simp,aE _,dl (by omega) (by omega),dl (by omega) (by omega)⟩,by go_grown⟩
def MF(c:UInt8):Bool:=c==32
def L6(c:UInt8):Bool:=c==32 || c==40 || c==41
def fC(p:UInt8->Bool)(s:ByteArray)(i:Nat):Nat:=i+((s.data.toList.drop i).takeWhile p).length
theorem D7(s:ByteArray)(k:Nat)(a:k<s.size):s.data.toList.drop k=s[k]::s.data.toList.drop (k+1):=by
 rw[eV (by simpa using a)];rfl
theorem wX{p:UInt8->Bool}{s:ByteArray}{k:Nat}(a:k<s.size)(b:p s[k]=true):fC p s (k+1)=fC p s k:=by
 unfold fC;rw[D7 s k a,List.takeWhile_cons,if_pos b,aZ];omega
theorem wY{p:UInt8->Bool}{s:ByteArray}{k:Nat}(a:k<s.size)(b:p s[k]=false):fC p s k=k:=by
 unfold fC;rw[D7 s k a,List.takeWhile_cons,if_neg (by simp[b])];rfl
theorem Bm{p:UInt8->Bool}{s:ByteArray}{k:Nat}(a:¬k<s.size):fC p s k=k:=by
 unfold fC;rw[oI (by simp;omega)];rfl
theorem yO(p:UInt8->Bool)(s:ByteArray)(k:Nat):k<=fC p s k:=jr _ _
theorem EC(p:UInt8->Bool)(s:ByteArray)(k:Nat)(a:k<=s.size):fC p s k<=s.size:=by
 unfold fC;have b:=(List.takeWhile_sublist (l:=s.data.toList.drop k) p).length_le;have c:(s.data.toList.drop k).length=s.size-k:=by simp
 omega
def dx(s:ByteArray)(i:Nat):Nat:=fC MF s i
def ee(s:ByteArray)(i:Nat):Nat:=if fC (λc=> !enB c) s (dx s i)=dx s i/\dx s i<s.size then dx s i+1 else fC (λc=> !enB c) s (dx s i)
theorem mf(s:ByteArray)(i:Nat):i<=dx s i:=yO _ _ _
theorem BJ(s:ByteArray)(i:Nat)(a:i<=s.size):dx s i<=s.size:=EC _ _ _ a
theorem BK(s:ByteArray)(i:Nat):dx s i<=ee s i:=by
 unfold ee;have:=yO (λc=> !enB c) s (dx s i);split<;>omega
theorem BM(s:ByteArray)(i:Nat)(a:i<=s.size):ee s i<=s.size:=by
 unfold ee;have:=EC (λc=> !enB c) s (dx s i) (BJ s i a);split<;>omega
theorem rh(s:ByteArray)(i:Nat)(a:dx s i<s.size):dx s i<ee s i:=by
 unfold ee;have:=yO (λc=> !enB c) s (dx s i);split<;>omega
theorem G0(s:ByteArray)(i:Nat)(a:i<=s.size)(b:¬dx s i<s.size):dx s i=s.size/\ee s i=s.size:=by
 have c:=BJ s i a;have d:=BM s i a;have e:=BK s i;omega
def Rd(r:Nat)(s:ByteArray)(b e:Nat)(w:World):Prop:=w.heap[r]?=some (.cells #[af s,ab b,ab e] 133)
theorem Rd.cells{r:Nat}{s:ByteArray}{b e:Nat}{w:World}(a:Rd r s b e w):(w.cell? ⟨r,0,none⟩=some (af s)/\w.cell? ⟨r,1,none⟩=some (ab b)/\w.cell? ⟨r,2,none⟩=some (ab e))/\w.frozen? ⟨r,1,none⟩=false/\w.frozen? ⟨r,2,none⟩=false:=by
 unfold Rd at a;exact⟨⟨by simp[World.cell?,a],by simp[World.cell?,a],by simp[World.cell?,a]⟩,by simp[World.frozen?,a],by simp[World.frozen?,a]⟩
theorem Rd.set1{r:Nat}{s:ByteArray}{b e:Nat}{w:World}(a:Rd r s b e w)(k:Nat):Rd r s k e (w.setCell ⟨r,1,none⟩ (ab k)):=by
 unfold Rd at*;simp[World.setCell,bG,a]
theorem Rd.set2{r:Nat}{s:ByteArray}{b e:Nat}{w:World}(a:Rd r s b e w)(k:Nat):Rd r s b k (w.setCell ⟨r,2,none⟩ (ab k)):=by
 unfold Rd at*;simp[World.setCell,bG,a]
theorem Rd.drew{r:Nat}{s:ByteArray}{b e:Nat}{w:World}(a:Rd r s b e w)(n:Nat):Rd r s b e (w.drewN n):=a
theorem Rd.lt{r:Nat}{s:ByteArray}{b e:Nat}{w:World}(a:Rd r s b e w):r<w.heap.size:=(aD.1 a).1
theorem lS(w:World)(r o:Nat)(v:Value):w.grownBy (w.setCell ⟨r,o,none⟩ v) (some r):=
 ⟨rfl,rfl,rfl,by simp[World.setCell],λk _ b=>eG w _ v k (λa=>b (by rw[a]))⟩
theorem eu(w:World)(n:Nat)(q:Option Nat):w.grownBy (w.drewN n) q:=⟨rfl,rfl,rfl,ak _,λ_ _ _=>rfl⟩
theorem bR{w w1 w2:World}{q:Option Nat}(a:w.grownBy w1 q)(k:w1.grownBy w2 q):w.grownBy w2 q:=
 ⟨k.os.trans a.os,k.tape.trans a.tape,k.output.trans a.output,ay a.size k.size,λd b c=>(k.block d (aN b a.size) c).trans (a.block d b c)⟩
theorem Io(c:UInt8)(w:World):am 93 #[.int .u8 c.toNat] w λe w'=>e=.returned (.bool (L6 c))/\w'=w:=by
 by_cases a:c=32
 ·subst a;go_enter Tryz.func93,Tryz.ntmps93;go_wp2_with fail
  all_goals go_ret
  all_goals exact⟨rfl,rfl⟩
 ·have d1:=jL (k:=32) (d:=32) rfl a;by_cases b:c=40
  ·subst b;go_enter Tryz.func93,Tryz.ntmps93;go_wp2_with fail
   all_goals go_ret
   all_goals exact⟨rfl,rfl⟩
  ·have g:=jL (k:=40) (d:=40) rfl b;by_cases f:c=41
   ·subst f;go_enter Tryz.func93,Tryz.ntmps93;go_wp2_with fail
    all_goals go_ret
    all_goals exact⟨rfl,rfl⟩
   ·have h:=jL (k:=41) (d:=41) rfl f;go_enter Tryz.func93,Tryz.ntmps93;go_wp2_with fail
    all_goals go_ret
    all_goals exact⟨bL (by rw[show L6 c=false by simp[L6,a,b,f]];simp;omega),rfl⟩
theorem J6(r:Nat)(s:ByteArray)(b e:Nat)(w:World)(a:Rd r s b e w)(j:b<=e)(l:e<=s.size):am 63 #[aF r] w λc w'=>c=.returned (af (s.extract b e))/\∃n,w'=w.drewN n:=by
 obtain⟨⟨d,f,g⟩,h,i⟩:=a.cells;clear a;have k:(b:Int)<=e:=by omega
 have m:(e:Int)<=s.size:=by omega
 go_enter Tryz.func63,Tryz.ntmps63;go_wp2_with fail
 go_quiet (fail)
 go_wp2_with fail
 go_ret
 exact⟨by simp,_,rfl⟩
theorem pN{w w1 w2:World}{q:Option Nat}(a:w.grownBy w1 q)(c:w2.os=w1.os)(d:w2.tape=w1.tape)(e:w2.output=w1.output)(b:w2.heap=w1.heap):w.grownBy w2 q:=
 ⟨c.trans a.os,d.trans a.tape,e.trans a.output,by rw[b];exact a.size,λk f g=>by rw[b];exact a.block k f g⟩
theorem D8(c:UInt8)(w:World)(b:Bool)(a:L6 c=b):am 93 #[.int .u8 c.toNat] w λe w'=>e=.returned (.bool b)/\w'=w:=by
 rw[<-a];exact Io c w
theorem qH(r:Nat)(s:ByteArray)(H g:Nat)(w:World)(e:Rd r s H g w)(L:g<=s.size)(X:s.size<=2048):am 61 #[aF r] w λI w'=>I=.returned (.tuple #[])/\Hid (Rd r s (dx s g) (ee s g) w'/\w.grownBy w' (some r)):=by
 obtain⟨⟨B,v,x⟩,C,D⟩:=e.cells;have z:=ao (⟨e.set1 g,lS w r 1 (ab g)⟩:_/\_);clear e;go_enter Tryz.func61,Tryz.ntmps61;go_wp2_with fail;go_loopw [] (λwr=>∃k:Nat,k<=s.size/\Hid (Rd r s k g wr/\w.grownBy wr (some r)/\fC MF s k=dx s g)/\True) (λwr=>s.size-(intOf ((wr.cell? ⟨r,1,none⟩).getD undef)).toNat)
 case atStart=>exact⟨g,L,⟨z.out.1,z.out.2,rfl⟩,trivial⟩
 case round=>
  obtain⟨k,M,j,_⟩:=hrel;obtain⟨⟨B,v,x⟩,C,D⟩:=j.out.1.cells;by_cases h:∃e:k<s.size,s[k]=32
  ·obtain⟨b,J⟩:=h;have N:(k:Int)<s.size:=by omega
   have E:decide ((k:Int)<s.size)=true:=by simp;omega
   have u:=ao (wX (p:=MF) b (by simp[MF,J]));go_wp2_with fail
   go_quiet (fail)
   go_wp2_with fail;go_roundw
   case rel=>exact⟨k+1,by omega,⟨(j.out.1.drew nq).set1 (k+1),bR j.out.2.1 (bR (eu wr nq _) (lS _ _ _ _)),by rw[u.out];exact j.out.2.2⟩,trivial⟩
   case measure=>simp[go_sem,v,intOf];omega
  ·have i:Hid (dx s g=k):=by
     rw[<-j.out.2.2];by_cases b:k<s.size
     ·exact wY (p:=MF) b (by simp[MF];exact λe=>h ⟨b,e⟩)
     ·exact Bm (p:=MF) b
   have K:((¬k<s.size)/\decide ((k:Int)<s.size)=false)\/((k:Int)<s.size/\decide ((k:Int)<s.size)=true/\∃e:k<s.size,((s[k].toNat:Int)==32)=false):=by
    by_cases b:k<s.size
    ·have U:=jL (k:=32) (d:=32) rfl (λe=>h ⟨b,e⟩);exact ai ⟨by omega,by simp;omega,b,by simp;omega⟩
    ·exact ah ⟨b,by simp;omega⟩
   clear h;rcases K with⟨b,E⟩|⟨N,E,b,V⟩
   all_goals
    go_wp2_with fail
    go_quiet (fail)
    have A:=ao (show Rd r s k k ((wr.drewN nq).setCell ⟨r,2,none⟩ (ab k))/\w.grownBy ((wr.drewN nq).setCell ⟨r,2,none⟩ (ab k)) (some r)from⟨(j.out.1.drew nq).set2 k,bR j.out.2.1 (bR (eu wr nq _) (lS _ _ _ _))⟩);go_wp2_with fail;go_loopw [] (λq=>∃a:Nat,a<=s.size/\k<=a/\Hid (Rd r s k a q/\w.grownBy q (some r)/\fC (λc=> !enB c) s a=fC (λc=> !enB c) s k)/\True) (λq=>s.size-(intOf ((q.cell? ⟨r,2,none⟩).getD undef)).toNat)
    case atStart=>exact⟨k,M,ak _,⟨A.out.1,A.out.2,rfl⟩,trivial⟩
    case round=>
     obtain⟨a,W,F,f,_⟩:=hrel;obtain⟨⟨B,v,x⟩,C,D⟩:=f.out.1.cells;by_cases h:∃e:a<s.size,L6 s[a]=false
     ·obtain⟨n,o⟩:=h;have y:k<s.size:=Nat.lt_of_le_of_lt F n
      first|exact absurd y b|skip
      all_goals
       have T:(a:Int)<s.size:=by omega
       have G:decide ((a:Int)<s.size)=true:=by simp;omega
       have u:=ao (wX (p:=λc=> !enB c) n (by simp[o]));go_wp2_with fail
       go_quiet ((go_at_call 93;exact Calls.quiet_of_same (D8 s[a] _ _ o)))
       go_wp2_with fail;go_roundw
       case rel=>exact⟨a+1,by omega,by omega,⟨(f.out.1.drew _).set2 (a+1),bR f.out.2.1 (bR (eu _ _ _) (lS _ _ _ _)),by rw[u.out];exact f.out.2.2⟩,trivial⟩
       case measure=>simp[go_sem,x,intOf];omega
     ·have t:Hid (fC (λc=> !enB c) s k=a):=by
        rw[<-f.out.2.2];by_cases b:a<s.size
        ·exact wY (p:=λc=> !enB c) b (by simp;cases e:L6 s[a];exact absurd ⟨b,e⟩ h;rfl)
        ·exact Bm (p:=λc=> !enB c) b
      have S:((¬a<s.size)/\decide ((a:Int)<s.size)=false)\/((a:Int)<s.size/\decide ((a:Int)<s.size)=true/\∃e:a<s.size,L6 s[a]=true):=by
       by_cases b:a<s.size
       ·exact ai ⟨by omega,by simp;omega,b,by cases e:L6 s[a];exact absurd ⟨b,e⟩ h;rfl⟩
       ·exact ah ⟨b,by simp;omega⟩
      clear h;rcases S with⟨n,G⟩|⟨T,G,n,o⟩
      ·have m:Hid (ee s g=a):=by
         simp only[Hid,ee,i.out,t.out];rw[if_neg (by omega)]
       go_wp2_with fail
       go_quiet (fail)
       go_wp2_with fail;by_cases l:a=k
       ·first|exact absurd (show a<s.size by omega) n|skip
        all_goals
         subst l
         go_quiet (fail)
         go_wp2_with fail
         go_end0
         refine⟨rfl,?_,pN f.out.2.1 rfl rfl rfl rfl⟩;rw[i.out,m.out];exact f.out.1
       ·first|exact absurd (show a=k by omega) l|skip
        all_goals
         have O:((a:Int)==k)=false:=by simp;omega
         have P:(a==k)=false:=by simp;omega
         have Q:decide (a=k)=false:=by simp;omega
         have R:decide ((a:Int)=k)=false:=by simp;omega
         clear l
         go_quiet (fail)
         go_wp2_with fail
         go_end0
         refine⟨rfl,?_,pN f.out.2.1 rfl rfl rfl rfl⟩;rw[i.out,m.out];exact f.out.1
      ·have y:k<s.size:=Nat.lt_of_le_of_lt F n
       first|exact absurd y b|skip
       all_goals
        go_wp2_with fail
        go_quiet ((go_at_call 93;exact Calls.quiet_of_same (D8 s[a] _ _ o)))
        go_wp2_with fail;by_cases l:a=k
        ·have m:Hid (ee s g=a+1):=by
           simp only[Hid,ee,i.out,t.out];rw[if_pos ⟨l,by omega⟩];omega
         subst l
         go_quiet (fail)
         go_wp2_with fail
         go_end0
         refine⟨rfl,?_,bR f.out.2.1 (bR (eu _ _ _) (lS _ _ _ _))⟩;rw[i.out,m.out];exact Rd.set2 f.out.1 (a+1)
        ·have m:Hid (ee s g=a):=by
           simp only[Hid,ee,i.out,t.out];rw[if_neg (by omega)]
         have O:((a:Int)==k)=false:=by simp;omega
         have P:(a==k)=false:=by simp;omega
         have Q:decide (a=k)=false:=by simp;omega
         have R:decide ((a:Int)=k)=false:=by simp;omega
         clear l
         go_quiet (fail)
         go_wp2_with fail
         go_end0
         refine⟨rfl,?_,pN f.out.2.1 rfl rfl rfl rfl⟩;rw[i.out,m.out];exact f.out.1
abbrev fo:Type:=Nat×ByteArray
def BW(x:ByteArray):Bool:=x.toList==[40]
def ye(x:ByteArray):Bool:=x.toList==[41]
theorem KW{x:ByteArray}{c:UInt8}(a:(x.toList==[c])=true):x.data.toList=[c]/\x.size=1:=by
 rw[b8]at a;have b:x.data.toList=[c]:=by simpa using a
 refine⟨b,?_⟩;have:x.data.toList.length=x.size:=by simp
 rw[b]at this;simpa using this.symm
theorem uw{x:ByteArray}(a:ye x=true):fk x=false/\BW x=false:=by
 obtain⟨b,c⟩:=KW a;simp[fk,BW,eC,b8,b,ip,tY,fV,yk]
def DK{a:Type}(f:a->List fo->List fo->Prop):List a->List fo->List fo->Prop
 | [],ts,r=>ts=r
 | x::l,ts,r=>∃m,f x ts m/\DK f l m r
def Is:(n:Nat)->Tm n->List fo->List fo->Prop
 | 0,_,_,_=>False
 | n+1,x,ts,r=>∃t a,ts=t::a/\((BW t.2=false/\fk t.2=true/\x.1=kK t.2/\x.2.2=[]/\r=a)\/
    (BW t.2=true/\x.1=(4,0,⟨#[]⟩)/\∃c,DK (Is n) x.2.2 a (c::r)/\ye c.2=true))
theorem DK.snoc{b:Type}{f:b->List fo->List fo->Prop}{x:b}{r:List fo}:{l:List b}->{a m:List fo}->DK f l a m->f x m r->DK f (l++ [x]) a r
 | [],a,m,h,hx=>by
  have e:a=m:=h;subst e;exact⟨r,hx,rfl⟩
 | y::l,a,m,h,hx=>by
  obtain⟨q,c,d⟩:=h;exact⟨q,c,d.snoc hx⟩
theorem Is.head{n:Nat}{x:Tm n}{c r:List fo}(a:Is n x c r):∃t b,c=t::b/\ye t.2=false:=by
 cases n with
 | zero=>exact a.elim
 | succ n=>
  obtain⟨t,b,rfl,a⟩:=a;refine⟨t,b,rfl,?_⟩;cases hc:ye t.2
  ·rfl
  ·have:=uw hc;rcases a with a|a
   ·rw[this.1]at a;exact absurd a.2.1 (by simp)
   ·rw[this.2]at a;exact absurd a.1 (by simp)
theorem DK.one{n m:Nat}(ih:∀(x:Tm n)(y:Tm m)(d r f:List fo),Is n x d r->Is m y d f->ax n x m y=true/\r=f):(p:List (Tm n))->(q:List (Tm m))->(d:List fo)->(c i:fo)->(r f:List fo)->ye c.2=true->ye i.2=true->DK (Is n) p d (c::r)->DK (Is m) q d (i::f)->aC (λa b=>ax n a m b) p q=true/\r=f
 | [],[],d,c,i,r,f,hc,hc',h,h'=>by
  have j:d=c::r:=h;have g:d=i::f:=h';rw[j]at g;injection g with _ e;exact⟨rfl,e⟩
 | [],y::q,d,c,i,r,f,hc,hc',h,h'=>by
  have j:d=c::r:=h;obtain⟨A,k,_⟩:=h';obtain⟨t,C,g,l⟩:=k.head;rw[j]at g;injection g with e _;rw[<-e,hc]at l;exact absurd l (by simp)
 | x::p,[],d,c,i,r,f,hc,hc',h,h'=>by
  have j:d=i::f:=h';obtain⟨A,k,_⟩:=h;obtain⟨t,C,g,l⟩:=k.head;rw[j]at g;injection g with e _;rw[<-e,hc']at l;exact absurd l (by simp)
 | x::p,y::q,d,c,i,r,f,hc,hc',h,h'=>by
  obtain⟨o,k,v⟩:=h;obtain⟨B,w,z⟩:=h';obtain⟨j,g⟩:=ih x y d o B k w;subst g;obtain⟨s,u⟩:=DK.one ih p q o c i r f hc hc' v z;exact⟨by simp only[aC];rw[j,s];rfl,u⟩
theorem Is.one:(n:Nat)->(m:Nat)->(x:Tm n)->(y:Tm m)->(f r b:List fo)->Is n x f r->Is m y f b->ax n x m y=true/\r=b
 | 0,_,_,_,_,_,_,a,_=>a.elim
 | _+1,0,_,_,_,_,_,_,a=>a.elim
 | n+1,m+1,x,y,f,r,b,a,g=>by
  obtain⟨t,z,rfl,a⟩:=a;obtain⟨t2,A,e,g⟩:=g;injection e with h i;subst h i;rcases a with⟨o,_,l,j,v⟩|⟨o,l,c,j,s⟩
  ·rcases g with⟨_,_,p,k,w⟩|⟨d,_⟩
   ·refine⟨?_,v.trans w.symm⟩;simp only[ax,l,p,j,k,aC];simp
   ·rw[o]at d;exact absurd d (by simp)
  ·rcases g with⟨d,_⟩|⟨_,p,q,k,u⟩
   ·rw[o]at d;exact absurd d (by simp)
   ·obtain⟨h,i⟩:=DK.one (λx y f r b=>Is.one n m x y f r b) x.2.2 y.2.2 z c q r b s u j k;refine⟨?_,i⟩;simp only[ax,l,p,h];simp
theorem Is.nodes:(n:Nat)->(x:Tm n)->(a r:List fo)->Is n x a r->(aw n x).length+r.length<=a.length
 | 0,_,_,_,b=>b.elim
 | n+1,x,a,r,b=>by
  have key:∀(l:List (Tm n))(a r:List fo),DK (Is n) l a r->(l.flatMap λy=>Proofs.YtckamaoibonjcaaGreat.nodes n y).length+r.length<=a.length:=by
   intro l
   induction l with
   | nil=>intro a r b;have f:a=r:=b;subst f;simp
   | cons y l ih=>
    intro a r b;obtain⟨e,g,h⟩:=b;have:=Is.nodes n y a e g;have:=ih e r h;simp only[bB,bj];omega
  obtain⟨t,k,rfl,b⟩:=b;simp only[Proofs.YtckamaoibonjcaaGreat.nodes,aZ];rcases b with⟨o,_,j,d,i⟩|⟨o,j,c,d,m⟩
  ·rw[d,i];simp;omega
  ·have:=key x.2.2 k (c::r) d;simp only[aZ]at this;omega
def jG(L:Nat):List fo->Nat->Option Nat
 | [],0=>none
 | [],_+1=>some L
 | t::_,0=>some t.1
 | t::ts,d+1=>if BW t.2 then jG L ts (d+2)else if ye t.2 then jG L ts d else if fk t.2 then jG L ts (d+1)else some t.1
def BV(L:Nat):List fo->Nat->Option Nat
 | [],_=>some L
 | t::ts,d=>if BW t.2 then jG L ts (d+1)else if fk t.2 then jG L ts d else some t.1
def Jf(L:Nat):List fo->Nat
 | []=>L
 | t::_=>t.1
theorem Bi(L:Nat)(a:List fo)(d:Nat)(b:∀t c,a=t::c->ye t.2=false):jG L a (d+1)=BV L a (d+1):=by
 cases a with
 | nil=>rfl
 | cons t a=>simp only[jG,BV];rw[b t a rfl];simp
theorem De(L:Nat)(t:fo)(b:List fo)(d:Nat)(a:ye t.2=true):jG L (t::b) (d+1)=jG L b d:=by
 simp only[jG];rw[(uw a).2,a];simp
theorem wT{c d:Type}(f:c->d->Bool):(p:List c)->(q:List d)->aC f p q=true->p.length=q.length
 | [],[],_=>rfl
 | [],_::_,h=>by simp[aC]at h
 | _::_,[],h=>by simp[aC]at h
 | a::p,b::q,h=>by
  simp only[aC,aA]at h;simp[wT f p q h.2]
theorem KT{k b f g:Int}{s e:ByteArray}{l d c i:Nat}{a h:Option Addr}(j:k=b)(m:f=g)(n:s=e)(o:l=d):cv ((k,f,s),(a,l,c))=cv ((b,g,e),(h,d,i)):=by
 subst j m n o;rfl
theorem sG:(n m:Nat)->(x:Tm n)->(y:Tm m)->ax n x m y=true->bV n x=bV m y/\fh n x=fh m y/\sz n x=sz m y
 | 0,_,_,_,c=>by simp[ax]at c
 | _+1,0,_,_,c=>by simp[ax]at c
 | n+1,m+1,x,y,c=>by
  have key:∀(p:List (Tm n))(q:List (Tm m)),aC (λa b=>ax n a m b) p q=true->
    (p.all λy=>bV n y)=(q.all λy=>bV m y)/\(∀a,p.foldl (λm y=>max m (fh n y)) a=q.foldl (λk y=>max k (fh m y)) a)/\(p.map λy=>1+sz n y).sum=(q.map λy=>1+sz m y).sum:=by
   intro p
   induction p with
   | nil=>
    intro q c;cases q with
    | nil=>simp
    | cons b q=>simp[aC]at c
   | cons a p ih=>
    intro q c;cases q with
    | nil=>simp[aC]at c
    | cons b q=>
     simp only[aC,aA]at c;obtain⟨j,l,o⟩:=sG n m a b c.1;obtain⟨e,f,g⟩:=ih q c.2;refine⟨by simp only[iO,j,e],λv=>?_,by simp only[aK,bv,o,g]⟩;simp only[fH,l];exact f _
  simp only[ax,aA,cm]at c;obtain⟨⟨⟨d,r⟩,h⟩,i⟩:=c;obtain⟨e,f,g⟩:=key _ _ i;have t:=wT _ _ _ i;have u:x.1.2.2=y.1.2.2:=by
   rw[b8,b8]at h;exact ByteArray.ext (mh.1 h)
  refine⟨?_,?_,?_⟩
  ·have s:cv (bA n x)=cv (bA m y):=KT d r u t;simp only[bV,s,d,e]
  ·simp only[fh,d,f]
  ·simp only[sz,d,g]
theorem Gp(n m:Nat)(x:Tm n)(y:Tm m)(a:ax n x m y=true):bu n x=bu m y:=by
 obtain⟨b,c,d⟩:=sG n m x y a;rw[<-gf,<-gf];simp only[vJ,b,c,d]
def qX:Nat->ByteArray->Nat->List fo
 | 0,_,_=> []
 | f+1,s,i=>if dx s i<s.size then (dx s i,s.extract (dx s i) (ee s i))::qX f s (ee s i)else []
def jA(s:ByteArray)(i:Nat):List fo:=qX (s.size-i) s i
theorem mW(s:ByteArray):(f g i:Nat)->s.size-i<=f->s.size-i<=g->qX f s i=qX g s i
 | 0,0,_,_,_=>rfl
 | 0,g+1,i,h,_=>by
  have:=mf s i;simp only[qX];rw[if_neg (by omega)]
 | f+1,0,i,_,h=>by
  have:=mf s i;simp only[qX];rw[if_neg (by omega)]
 | f+1,g+1,i,h,h'=>by
  simp only[qX];by_cases a:dx s i<s.size
  ·rw[if_pos a,if_pos a];have b:=rh s i a;have c:=mf s i;rw[mW s f g (ee s i) (by omega) (by omega)]
  ·rw[if_neg a,if_neg a]
theorem xh(s:ByteArray)(i:Nat)(a:dx s i<s.size):jA s i=(dx s i,s.extract (dx s i) (ee s i))::jA s (ee s i):=by
 have b:=rh s i a;have c:=mf s i;unfold jA;rw[mW s (s.size-i) (s.size-i+1) i (by omega) (by omega)];simp only[qX];rw[if_pos a,mW s (s.size-i) (s.size-ee s i) (ee s i) (by omega) (by omega)]
theorem vd(s:ByteArray)(i:Nat)(a:¬dx s i<s.size):jA s i=[]:=by
 unfold jA;rw[mW s (s.size-i) (s.size-i+1) i (by omega) (by omega)];simp only[qX];rw[if_neg a]
theorem lj(s:ByteArray):(f i:Nat)->s.size-i<=f->(jA s i).length<=s.size-i
 | 0,i,h=>by
  have:=mf s i;rw[vd s i (by omega)];simp
 | f+1,i,h=>by
  by_cases a:dx s i<s.size
  ·have b:=rh s i a;have c:=mf s i;rw[xh s i a];have:=lj s f (ee s i) (by omega);simp only[aZ];omega
  ·rw[vd s i a];simp
def At(s:ByteArray)(b e:Nat)(a:List fo):Prop:=
 b<=e/\e<=s.size/\((b=s.size/\a=[])\/(b<e/\a=(b,s.extract b e)::jA s e))
theorem At.next{s:ByteArray}{i:Nat}(b:i<=s.size):At s (dx s i) (ee s i) (jA s i):=by
 refine⟨BK s i,BM s i b,?_⟩;by_cases a:dx s i<s.size
 ·exact ai ⟨rh s i a,xh s i a⟩
 ·exact ah ⟨(G0 s i b a).1,vd s i a⟩
theorem At.pos{s:ByteArray}{b e:Nat}{a:List fo}(c:At s b e a):Jf s.size a=b:=by
 rcases c.2.2 with⟨d,rfl⟩|⟨_,rfl⟩
 ·exact d.symm
 ·rfl
theorem At.nil{s:ByteArray}{b e:Nat}(a:At s b e []):(s.extract b e).toList=[]:=by
 rcases a.2.2 with⟨d,_⟩|⟨_,c⟩
 ·rw[b8];apply bH;have:=a.2.1;simp;omega
 ·exact absurd c (by simp)
theorem At.cons{s:ByteArray}{b e:Nat}{t:fo}{d:List fo}(c:At s b e (t::d)):t=(b,s.extract b e)/\d=jA s e/\0<(s.extract b e).size:=by
 rcases c.2.2 with⟨_,a⟩|⟨h,a⟩
 ·exact absurd a (by simp)
 ·injection a with f g;refine⟨f,g,?_⟩;have:=c.2.1;simp;omega
-- Sign by sign:what a sign does to the words ahead.
theorem fy{w w1:World}{q:Option Nat}(a:w.grownBy w1 q)(o:Obj):w.grownBy (w1.alloc o) q:=
 ⟨a.os,a.tape,a.output,by have:=a.size;simp;omega,λk b c=>by
  exact(((ap w1.heap.size w1).alloc (ak _) o).block k (aN b a.size)).trans (a.block k b c)⟩
theorem lR{w w1:World}{q:Option Nat}(a:w.grownBy w1 q){b:Nat}(e:w.heap.size<=b)(o:Nat)(v:Value):w.grownBy (w1.setCell ⟨b,o,none⟩ v) q:=
 ⟨a.os,a.tape,a.output,by simpa [World.setCell]using a.size,λk c d=>(eG w1 ⟨b,o,none⟩ v k (by simp;omega)).trans (a.block k c d)⟩
theorem FN{w w1 w2:World}{q:Option Nat}(a:w.grownBy w1 q){g:Option Nat}(k:w1.grownBy w2 g)(f:∀b,g=some b->w.heap.size<=b):w.grownBy w2 q:=
 ⟨k.os.trans a.os,k.tape.trans a.tape,k.output.trans a.output,ay a.size k.size,λc d h=>(k.block c (aN d a.size) (λe=>by have:=f c e.symm;omega)).trans (a.block c d h)⟩
theorem nG{w w1 w2:World}{q:Option Nat}(a:w.grownBy w1 q)(k:aj w1 w2):w.grownBy w2 q:=
 ⟨k.os.trans a.os,k.tape.trans a.tape,k.output.trans a.output,ay a.size k.size,λc b d=>(k.block c (aN b a.size)).trans (a.block c b d)⟩
theorem Rd.block{r:Nat}{s:ByteArray}{b e:Nat}{w w':World}(a:Rd r s b e w)(k:w'.heap[r]?=w.heap[r]?):Rd r s b e w':=k.trans a
theorem Rd.alloc{r:Nat}{s:ByteArray}{b e:Nat}{w:World}(a:Rd r s b e w)(o:Obj):Rd r s b e (w.alloc o):=
 a.block (((ap w.heap.size w).alloc (ak _) o).block r a.lt)
theorem Rd.far{r:Nat}{s:ByteArray}{b e:Nat}{w:World}(a:Rd r s b e w){g:Nat}(c:r<g)(o:Nat)(v:Value):Rd r s b e (w.setCell ⟨g,o,none⟩ v):=
 a.block (eG w ⟨g,o,none⟩ v r (by simp;omega))
def ahead(s:ByteArray)(b e:Nat):List fo:=if b<s.size then (b,s.extract b e)::jA s e else []
def NO(r:Nat)(s:ByteArray)(w:World):Nat:=(ahead s (intOf ((w.cell? ⟨r,1,none⟩).getD undef)).toNat (intOf ((w.cell? ⟨r,2,none⟩).getD undef)).toNat).length
theorem IW{r:Nat}{s:ByteArray}{b e:Nat}{w:World}{a:List fo}(f:Rd r s b e w)(k:At s b e a):NO r s w=a.length:=by
 obtain⟨⟨h,c,d⟩,i,j⟩:=f.cells;simp only[NO,c,d,Option.getD_some,intOf,Int.toNat_natCast,ahead];rcases k.2.2 with⟨g,rfl⟩|⟨g,rfl⟩
 ·rw[if_neg (by omega)]
 ·rw[if_pos (by have:=k.2.1;omega)]
def lp(n:Nat)(s:ByteArray)(r:Nat)(e:List fo)(w w':World)(v:Value)(ok:Bool):Prop:=
 w.grownBy w' (some r)/\∃b f c,Rd r s b f w'/\At s b f c/\
  (ok=true->(∃d:Tm n,dj n d=v/\Is n d e c/\In w'.heap.size w' n d/\bZ (λg=>w.heap.size<=g) n d)/\∀a,BV s.size e a=jG s.size c a)/\
  (ok=false->∀a,BV s.size e a=some (Jf s.size c))
def Km(n:Nat)(s:ByteArray)(r:Nat)(d:List fo)(w w':World)(e:Ending):Prop:=
 ∃(k b:Int)(t:ByteArray)(a:Option Addr)(l c:Nat)(ok:Bool),e=.returned (.tuple #[.agg #[ab k,ab b,af t,ae a l c],.bool ok])/\
  Hid (lp n s r d w w' (.agg #[ab k,ab b,af t,ae a l c]) ok)
def LX(n:Nat):Prop:=∀(r:Nat)(s:ByteArray)(b e:Nat)(a:List fo)(w:World),Rd r s b e w->At s b e a->s.size<=2048->a.length<=n->
 am 62 #[aF r] w λc w'=>Km (n+1) s r a w w' c
theorem oD(r:Nat)(s:ByteArray)(b e:Nat)(x:ByteArray)(w:World)(c:Rd r s b e w)(d:b<=e)(f:e<=s.size)(g:s.extract b e=x):am 63 #[aF r] w λa w'=>a=.returned (af x)/\∃n,w'=w.drewN n:=by
 subst g;exact J6 r s b e w c d f
def Bx(q:Nat)(v0 v1 v2 v3:Value)(w:World):Prop:=w.heap[q]?=some (.cells #[v0,v1,v2,v3] 30)
theorem Bx.cells{q:Nat}{v0 v1 v2 v3:Value}{w:World}(a:Bx q v0 v1 v2 v3 w):(w.cell? ⟨q,0,none⟩=some v0/\w.cell? ⟨q,1,none⟩=some v1/\w.cell? ⟨q,2,none⟩=some v2/\w.cell? ⟨q,3,none⟩=some v3)/\ (w.frozen? ⟨q,0,none⟩=false/\w.frozen? ⟨q,1,none⟩=false/\w.frozen? ⟨q,2,none⟩=false/\w.frozen? ⟨q,3,none⟩=false):=by
 unfold Bx at a;exact⟨⟨by simp[World.cell?,a],by simp[World.cell?,a],by simp[World.cell?,a],by simp[World.cell?,a]⟩,by simp[World.frozen?,a],by simp[World.frozen?,a],by simp[World.frozen?,a],by simp[World.frozen?,a]⟩
theorem Bx.block{q:Nat}{v0 v1 v2 v3:Value}{w w':World}(a:Bx q v0 v1 v2 v3 w)(k:w'.heap[q]?=w.heap[q]?):Bx q v0 v1 v2 v3 w':=k.trans a
theorem Bx.lt{q:Nat}{v0 v1 v2 v3:Value}{w:World}(a:Bx q v0 v1 v2 v3 w):q<w.heap.size:=(aD.1 a).1
theorem Bx.set3{q:Nat}{v0 v1 v2 v3:Value}{w:World}(a:Bx q v0 v1 v2 v3 w)(v:Value):Bx q v0 v1 v2 v (w.setCell ⟨q,3,none⟩ v):=by
 unfold Bx at*;simp[World.setCell,bG,a]
theorem Bx.new(w:World)(v0 v1 v2 v3:Value):Bx w.heap.size v0 v1 v2 v3 (w.alloc (.cells #[v0,v1,v2,v3] 30)):=aB w _
def Hb(n:Nat)(r:Nat)(s:ByteArray)(c:List fo)(w:World)(b e:Nat)(v:Value)(wr:World)(l:List (Tm (n+1)))(a:List fo):Prop:=
 Rd r s b e wr/\At s b e a/\(w.alloc (.cells #[ab 0,ab 0,af ⟨#[]⟩,ae none 0 0] 30)).grownBy wr (some r)/\qn (w.heap.size+2) (n+1) l v wr/\
  Bx w.heap.size (ab 0) (ab 0) (af ⟨#[]⟩) (ae none 0 0) wr/\Bx (w.heap.size+1) (ab 4) (ab 0) (af ⟨#[]⟩) v wr/\
  DK (Is (n+1)) l c a/\a.length<=c.length/\∀d,jG s.size c (d+1)=jG s.size a (d+1)
def Ko(n:Nat)(r:Nat)(s:ByteArray)(c:List fo)(w:World)(b e:Nat)(v:Value)(wr:World):Prop:=
 ∃(l:List (Tm (n+1)))(a:List fo),Hb n r s c w b e v wr l a
theorem ft(w:World)(o:Obj){q:Nat}(a:q<w.heap.size):(w.alloc o).heap[q]?=w.heap[q]? :=(cZ w o none).block q a (by simp)
theorem GP{n r:Nat}{s:ByteArray}{b e:Nat}{i:fo}{a:List fo}{w w1:World}(h:Rd r s b e w)(c:At s b e (i::a))(k:Rd r s (dx s e) (ee s e) w1)(g:((w.alloc (.cells #[ab 0,ab 0,af ⟨#[]⟩,ae none 0 0] 30)).alloc (.cells #[ab 4,ab 0,af ⟨#[]⟩,ae none 0 0] 30)).grownBy w1 (some r)):Ko n r s a w (dx s e) (ee s e) (ae none 0 0) w1:=by
 have j:=h.lt;have d:=(At.cons c).2.1;refine⟨[],a,k,by rw[d];exact At.next c.2.1,bR (cZ _ _ _) g,⟨⟨rfl,ah ⟨rfl,rfl⟩⟩,by simp⟩,?_,?_,rfl,ak _,λ_=>rfl⟩
 ·exact((Bx.new w _ _ _ _).block (ft _ _ (by simp))).block (g.block _ (by simp;omega) (by simp;omega))
 ·have:=Bx.new (w.alloc (.cells #[ab 0,ab 0,af ⟨#[]⟩,ae none 0 0] 30)) (ab 4) (ab 0) (af ⟨#[]⟩) (ae none 0 0);have f:(w.alloc (.cells #[ab 0,ab 0,af ⟨#[]⟩,ae none 0 0] 30)).heap.size=w.heap.size+1:=by simp
  rw[f]at this;exact this.block (g.block _ (by simp) (by simp;omega))
theorem qn.kept{base n:Nat}{l:List (Tm n)}{v:Value}{w w':World}(a:qn base n l v w){r:Nat}(g:w.grownBy w' (some r))(k:r<base):qn base n l v w':=by
 refine⟨a.1.kept g (ai λf=>by have:=a.1.lt r f;omega),λe d=>⟨?_,(a.2 e d).2⟩⟩;obtain⟨c,h⟩:=a.2 e d;have i:=In.offB h c;exact(In.off (λb j=>g.block b j.2 (by simp;omega)) i c).mono g.size
theorem qn.snoc{base n:Nat}{l:List (Tm (n+1))}{v:Value}{w0 w w2:World}(h:qn base (n+1) l v w0){r:Nat}(i:w0.grownBy w (some r))(A:r<base){x:Tm (n+1)}(C:In w.heap.size w (n+1) x)(y:bZ (λq=>w0.heap.size<=q) (n+1) x)(D:base<=w0.heap.size){w1:World}(j:w.grownBy w1 none){g c:Nat}(z:w2.ownsRow base 30 4 (ae (some ⟨g,0,none⟩) (l.length+1) c) (l.length+1) (cr (l.map (gd (n+1)))++uF (gd (n+1) x)))(k:w1.grownBy w2 v.ownBlock)(u:v.ownBlock=some g\/g=w1.heap.size):qn base (n+1) (l++ [x]) (ae (some ⟨g,0,none⟩) (l.length+1) c) w2:=by
 have p:=h.kept i A;have E:=i.size;have F:=j.size;have G:=k.size;have B:∀b,v.ownBlock=some b->b<w0.heap.size:=λb d=>(h.1.lt b d).2;refine⟨by simpa [cr]using z,λa f=>?_⟩
 have key:∀a:Tm (n+1),In w.heap.size w (n+1) a->bZ (λb=>base<=b/\v.ownBlock≠some b) (n+1) a->
   In w2.heap.size w2 (n+1) a/\bZ (λb=>base<=b/\(Value.slice (some ⟨g,0,none⟩) (l.length+1) c).ownBlock≠some b) (n+1) a:=by
  intro a m t;have o:=In.offB t m;refine⟨(In.off (λb e=>(k.block b (by omega) (λd=>e.1.2 d.symm)).trans (j.block b e.2 (by simp))) o m).mono (by omega),o.mono λb e=>⟨e.1.1,?_⟩⟩;intro d;have s:g=b:=by simpa [Value.ownBlock]using d
  rcases u with h|h
  ·exact e.1.2 (by rw[h,s])
  ·omega
 rcases cR.1 f with f|f
 ·exact key a (p.2 a f).1 (p.2 a f).2
 ·have d:a=x:=by simpa using f
  subst d;exact key a C (y.mono λb e=>⟨by omega,λd=>by have:=B b d;omega⟩)
theorem GL{n r:Nat}{s:ByteArray}{p:fo}{q:List fo}{w wr w2:World}{b e:Nat}{a:Option Addr}{L c m:Nat}(O:r<w.heap.size)(y:BW p.2=true)(B:Ko n r s q w b e (ae a L c) wr)(j:ye (s.extract b e)=true)(k:Rd r s (dx s e) (ee s e) w2)(g:(wr.drewN m).grownBy w2 (some r)):lp (n+2) s r (p::q) (w.alloc (.cells #[ab 0,ab 0,af ⟨#[]⟩,ae none 0 0] 30)) w2 (.agg #[ab 4,ab 0,af ⟨#[]⟩,ae a L c]) true/\ Bx w.heap.size (ab 0) (ab 0) (af ⟨#[]⟩) (ae none 0 0) w2/\Bx (w.heap.size+1) (ab 4) (ab 0) (af ⟨#[]⟩) (ae a L c) w2:=by
 obtain⟨l,o,K,h,u,C,v,x,D,M,E⟩:=B;have Q:=u.size;have H:=x.lt;have i:wr.grownBy w2 (some r):=bR (eu wr m _) g;obtain⟨I,J,ev,G,F⟩:=(C.kept i (by omega)).tup;injection ev with d f A;subst d f A;refine⟨⟨bR u i,dx s e,ee s e,jA s e,k,At.next h.2.1,λ_=>⟨⟨_,rfl,?_,F,G.mono λP N=>by simp;omega⟩,?_⟩,by simp⟩,v.block (i.block _ v.lt (by simp;omega)),x.block (i.block _ H (by simp;omega))⟩
 ·cases o with
  | nil=>simp[ye,h.nil]at j
  | cons t o=>
   obtain⟨d,f,_⟩:=h.cons;subst d f;exact⟨p,q,rfl,ai ⟨y,rfl,_,D,j⟩⟩
 ·intro z;cases o with
  | nil=>simp[ye,h.nil]at j
  | cons t o=>
   obtain⟨d,f,_⟩:=h.cons;subst d f;simp only[BV,y,cI];rw[E z,De _ _ _ _ j]
theorem lp.box{n r:Nat}{s:ByteArray}{d:List fo}{w w1:World}{o:Obj}{v:Value}{ok:Bool}(a:r<w.heap.size)(g:lp n s r d (w.alloc o) w1 v ok)(v0 v1 v2 v3:Value):lp n s r d w ((((w1.setCell ⟨w.heap.size,0,none⟩ v0).setCell ⟨w.heap.size,1,none⟩ v1).setCell ⟨w.heap.size,2,none⟩ v2).setCell ⟨w.heap.size,3,none⟩ v3) v ok:=by
 obtain⟨h,b,f,q,i,j,k,l⟩:=g;refine⟨lR (lR (lR (lR (bR (cZ _ _ _) h) (ak _) _ _) (ak _) _ _) (ak _) _ _) (ak _) _ _,b,f,q,(((i.far a _ _).far a _ _).far a _ _).far a _ _,j,λm=>?_,l⟩;obtain⟨⟨t,u,x,y,e⟩,z⟩:=k m;have c:∀b,(w.alloc o).heap.size<=b->((((w1.setCell ⟨w.heap.size,0,none⟩ v0).setCell ⟨w.heap.size,1,none⟩ v1).setCell ⟨w.heap.size,2,none⟩ v2).setCell ⟨w.heap.size,3,none⟩ v3).heap[b]?=w1.heap[b]? :=λb c=>by
  have A:w.heap.size<b:=by simp at c;omega
  rw[eG _ _ _ _ (by simp;omega),eG _ _ _ _ (by simp;omega),eG _ _ _ _ (by simp;omega),eG _ _ _ _ (by simp;omega)]
 refine⟨⟨t,u,x,(In.off c e y).mono (by simp[World.setCell]),e.mono λB p=>by simp at p;omega⟩,z⟩
theorem lp.alloc{n r:Nat}{s:ByteArray}{a:List fo}{w w1:World}{v:Value}{ok:Bool}(f:lp n s r a w w1 v ok)(o:Obj):lp n s r a w (w1.alloc o) v ok:=by
 obtain⟨g,b,e,p,h,i,j,k⟩:=f;refine⟨fy g o,b,e,p,h.alloc o,i,λm=>?_,k⟩;obtain⟨⟨q,t,u,c,d⟩,x⟩:=j m;exact⟨⟨q,t,u,(In.off (λb l=>ft w1 o l.2) (In.offB d c) c).mono (by simp),d⟩,x⟩
end Go.Proofs.YtckamaoibonjcaaGreat
