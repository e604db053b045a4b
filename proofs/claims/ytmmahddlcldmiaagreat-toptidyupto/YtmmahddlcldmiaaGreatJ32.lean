/- Proved here: plain facts and contracts. No condition but what each names. -/
import Derived.BigRegion
import Derived.Test.YtmmahddlcldmiaaGreatJ31
namespace Go.Proofs.YtmmahddlcldmiaaGreat
open Go.RowKit Tryz
set_option maxHeartbeats 8000000
set_option maxRecDepth 100000
def uN(c:UInt8):Bool:=decide (48<=(c.toNat:Int)) && decide ((c.toNat:Int)<=57)
def iP(l:List UInt8):Bool:=l.all uN
def lI(l:List UInt8):Int:=l.foldl (λn c=>10*n+((c.toNat:Int)-48)) 0
def eZ(s:ap)(m:Int):Bool:=decide (1<=(s.size:Int)) && decide ((s.size:Int)<=m) && !(s.data.toList[0]?==some 48 && decide (1<(s.size:Int))) && iP s.data.toList
theorem uO(s:ap)(k:Nat)(a:k<s.size):iP (s.data.toList.take (k+1))=(iP (s.data.toList.take k) && uN s[k]):=by
 rw[sR s k a];simp[iP]
theorem G0(s:ap)(k:Nat)(a:k<s.size):lI (s.data.toList.take (k+1))=10*lI (s.data.toList.take k)+((s[k].toNat:Int)-48):=by
 rw[sR s k a];simp[lI]
theorem DJ(l:List UInt8):iP l=true->0<=lI l/\lI l<10 ^ l.length:=by
 suffices g:∀(l:List UInt8)(a:Int)(b:Nat),iP l=true->0<=a->a<10 ^ b->0<=l.foldl (λn c=>10*n+((c.toNat:Int)-48)) a/\l.foldl (λn c=>10*n+((c.toNat:Int)-48)) a<10 ^ (b+l.length) by
  intro d;have:=g l 0 0 d (by omega) (by simp);simpa [lI]using this
 intro l
 induction l with
 | nil=>intro a b _ e f;exact⟨e,f⟩
 | cons c l ih=>
  intro a b d e f;simp only[iP,jn,aK,uN,co]at d;have:=ih (10*a+((c.toNat:Int)-48)) (b+1) (by simp only[iP];exact d.2) (by omega) (by rw[Int.pow_succ];omega);simp only[gD,br];rw[show b+(l.length+1)=b+1+l.length by omega];exact this
theorem DK(s:ap)(k:Nat)(d:k<=14)(c:iP (s.data.toList.take k)=true):0<=lI (s.data.toList.take k)/\lI (s.data.toList.take k)<100000000000000:=by
 have a:=DJ _ c;refine⟨a.1,Int.lt_of_lt_of_le a.2 ?_⟩;have:(10:Int) ^ (s.data.toList.take k).length<=10 ^ 14:=by
  have b:(10:Nat) ^ (s.data.toList.take k).length<=10 ^ 14:=Nat.pow_le_pow_right (by omega) (by simp;omega)
  exact_mod_cast b
 simpa using this
theorem xp(s:ap)(k:Nat)(a:k<s.size)(c:uN s[k]=false):iP s.data.toList=false:=by
 have b:iP s.data.toList=(iP (s.data.toList.take (k+1)) && iP (s.data.toList.drop (k+1))):=by
  conv=>lhs;rw[<-gZ (k+1) s.data.toList]
  simp only[iP,kM]
 rw[b,uO s k a,c];simp
theorem rB(s:ap)(a:0<s.size):s.data.toList[0]?=some s[0]:=by
 rw[aM (by simpa using a)];rfl
theorem On(s:ap)(e:0<s.size)(f:s[0]=48):(s.toList==[48])=decide (¬1<s.size):=by
 rw[cE];have b:=rB s e;rw[f]at b;have a:s.data.toList.length=s.size:=by simp
 cases d:s.data.toList with
 | nil=>rw[d]at a;simp at a;omega
 | cons c l=>
  rw[d]at b a;simp at b;subst b;cases l with
  | nil=>simp at a;simp;omega
  | cons g l=>simp at a;simp;omega
variable{ok:Bool}{u:Int}{j y L b c e k m n r:Nat}{o:Obj}{q:Option Nat}{p:UInt8->Bool}{h w w' w1 w2 wr:ag}{s x:ap}{v v0 v1 v2 v3:av}{z a:aw}
theorem Ch(b:0<s.size):s.toList.isEmpty=false:=by
 rw[cE,List.isEmpty_eq_false_iff];intro a;have:s.data.toList.length=s.size:=by simp
 rw[a]at this;simp at this;omega
theorem Cg(a:¬0<s.size):s.toList.isEmpty=true:=by
 rw[cE,List.isEmpty_iff];apply bJ;have:s.data.toList.length=s.size:=by simp
 omega
theorem kj{c:UInt8}{d:UInt8}(b:d.toNat=k)(a:¬c=d):¬((c.toNat:Int)=k):=λe=>a (UInt8.toNat.inj (by omega))
def NV(s:ap)(m:Int)(e:Ending):Prop:=
 ∃(a:Int)(b:Bool),e=.returned (.tuple #[ab a,.bool b])/\Hid (b=eZ s m/\0<=a/\a<100000000000000/\(b=true->a=lI s.data.toList))
theorem oz(s:ap)(m:Int)(w:ag)(F:s.size<=9223372036854775807)(E:m<=13):am 146 #[af s,ab m] w λe w'=>NV s m e/\w'=w:=by
 go_enter func146,ntmps146;by_cases g:0<s.size
 ·have n:=Ch g;have B:(s.toList=[])=False:=by simpa using n
  by_cases l:(s.size:Int)<=m
  ·have A:decide (m<(s.size:Int))=false:=by simp;omega
   have i:s[0]=48->(s.toList==[48])=decide (¬1<s.size):=On s g;by_cases c:s[0]=48/\1<s.size
   ·obtain⟨c,a⟩:=c;have j:(s.toList==[48])=false:=by rw[i c];simp;omega
    have b:Hid (eZ s m=false):=by simp[Hid,eZ,rB s g,c];omega
    clear i;go_wp2_with fail
    all_goals go_ret2
    all_goals exact⟨⟨0,false,rfl,b.symm,by omega,by omega,by simp⟩,rfl⟩
   ·have b:Hid (eZ s m=iP s.data.toList):=by
      simp only[Hid,eZ];rw[rB s g];by_cases a:s[0]=48
      ·have:¬1<s.size:=λf=>c ⟨a,f⟩;simp[l];omega
      ·simp[l,a];omega
    have j:(s[0]=48/\(s.toList==[48])=true)\/¬((s[0].toNat:Int)=48):=by
     by_cases a:s[0]=48
     ·have C:¬1<s.size:=λf=>c ⟨a,f⟩;exact ai ⟨a,by rw[i a];simp;omega⟩
     ·exact aj (kj (k:=48) rfl a)
    clear i c;rcases j with⟨a,j⟩|j
    all_goals
     go_wp2_with fail
     go_loop [6,7] (λt p=>∃k:Nat,∃h:Int,k<=s.size/\p=ab k/\t=ab h/\Hid (h=lI (s.data.toList.take k)/\iP (s.data.toList.take k)=true)) (λ_ p=>s.size-(intOf p).toNat)
     case atStart=>exact⟨0,0,aL _,rfl,rfl,by simp[Hid,iP,lI]⟩
     case round=>
      obtain⟨k,h,D,rfl,rfl,d⟩:=hrel;have u:=DK s k (by omega) d.2;rw[<-d.out.1]at u;obtain⟨G,H⟩:=u;by_cases o:k<s.size
      ·have y:=au (uO s k o);have z:=au (G0 s k o);have q:Hid (uN s[k]=false->false=eZ s m):=λf=>by rw[b.out,xp s k o f]
       by_cases d1:48<=(s[k].toNat:Int)
       ·by_cases r:(s[k].toNat:Int)<=57
        ·go_wp2_with fail
         go_round
         case rel=>exact⟨k+1,10*h+((s[k].toNat:Int)-48),by omega,by go_num,by go_num,by rw[z.out,d.out.1],by rw[y.out,d.out.2];simp[uN,d1,r]⟩
         case measure=>simp[intOf];omega
        ·go_wp2_with fail
         go_ret2
         exact⟨⟨0,false,rfl,q (by simp[uN,r]),by omega,by omega,by simp⟩,rfl⟩
       ·go_wp2_with fail
        go_ret2
        exact⟨⟨0,false,rfl,q (by simp[uN];omega),by omega,by omega,by simp⟩,rfl⟩
      ·go_wp2_with fail
       go_ret2
       have v:s.data.toList.take k=s.data.toList:=bF (by simp;omega);refine⟨⟨h,true,rfl,?_,by omega,by omega,λ_=>?_⟩,rfl⟩
       ·rw[b.out,<-v,d.out.2]
       ·rw[d.out.1,v]
  ·have A:m<(s.size:Int):=by omega
   have b:Hid (eZ s m=false):=by simp[Hid,eZ,l]
   go_wp2_with fail
   all_goals go_ret2
   all_goals exact⟨⟨0,false,rfl,b.symm,by omega,by omega,by simp⟩,rfl⟩
 ·have n:=Cg g;have B:(s.toList=[])=True:=by simpa using n
  have x:s.size=0:=by omega
  have b:Hid (eZ s m=false):=by simp[Hid,eZ,x]
  clear x;go_wp2_with fail
  all_goals go_ret2
  all_goals exact⟨⟨0,false,rfl,b.symm,by omega,by omega,by simp⟩,rfl⟩
def iv(s:ap):ap:=s.extract 1 s.size
def fJ(s:ap):Bool:=
 if s.data.toList[0]?=some 35 then eZ (iv s) 2
 else if s.data.toList[0]?=some 36 then eZ (iv s) 2
 else if s.data.toList[0]?=some 45 then eZ (iv s) 13 && !(lI (iv s).data.toList==0)
 else if s.toList==[95]then true
 else if eZ s 13 then true
 else decide (0<s.size) && gh s.data.toList
def lw(s:ap):Int×Int×ap:=
 if s.data.toList[0]?=some 35 then (3,lI (iv s).data.toList,⟨#[]⟩)
 else if s.data.toList[0]?=some 36 then (5,lI (iv s).data.toList,⟨#[]⟩)
 else if s.data.toList[0]?=some 45 then (1,-lI (iv s).data.toList,⟨#[]⟩)
 else if s.toList==[95]then (6,0,⟨#[]⟩)
 else if eZ s 13 then (1,lI s.data.toList,⟨#[]⟩)
 else (2,0,s)
def LD(s:ap)(e:Ending):Prop:=
 ∃(k a:Int)(t:ap)(b:Bool),e=.returned (.tuple #[.agg #[ab k,ab a,af t,ae none 0 0],.bool b])/\Hid (b=fJ s/\(b=true->(k,a,t)=lw s)/\t.size<=s.size/\dC k/\dC a)
theorem Eu(s:ap):(iv s).size<=s.size:=by simp[iv]
def NT(k:Int)(s:ap)(e:Ending):Prop:=
 ∃(a:Int)(b:Bool),e=.returned (.tuple #[.agg #[ab k,ab a,af ⟨#[]⟩,ae none 0 0],.bool b])/\Hid (b=eZ s 2/\0<=a/\a<100000000000000/\(b=true->a=lI s.data.toList))
theorem rJ(k:Int)(s:ap)(w:ag)(c:s.size<=9223372036854775807):am 145 #[ab k,af s] w λe w'=>NT k s e/\ak w w':=by
 go_enter func145,ntmps145;go_wp2_with (go_at_call 146;refine(oz _ _ _ c (by omega)).mono ?_;rintro e w' ⟨⟨v,b,rfl,a⟩,rfl⟩);exact az (v:=.tuple #[.agg #[ab k,ab v,af ⟨#[]⟩,ae none 0 0],.bool b]) (by simp[results,results145,go_sem]) rfl ⟨⟨v,b,rfl,a⟩,by go_grown⟩
theorem Gb(s:ap)(w:ag)(b:s.size<=2048):am 63 #[af s] w λe w'=>e=.returned (af s)/\ak w w':=by
 go_enter func63,ntmps63;go_wp2_with (go_at_call 98;refine(Tryz.stringslite_Clone s w (by omega)).mono ?_;rintro e w' ⟨rfl,a⟩)
 go_ret
 exact⟨rfl,a⟩
theorem Gj(s:ap)(a:0<s.size)(b:uN s[0]=false)(m:Int):eZ s m=false:=by simp[eZ,xp s 0 a b]
theorem GR(s:ap)(a:0<s.size)(c:zu s[0]=false):gh s.data.toList=false:=by
 have b:gh s.data.toList=(gh (s.data.toList.take 1) && gh (s.data.toList.drop 1)):=by
  conv=>lhs;rw[<-gZ 1 s.data.toList]
  simp only[gh,kM]
 rw[b,vt s 0 a,c];simp
theorem N3(s:ap)(d:0<s.size)(b:¬s[0]=95):(s.toList==[95])=false:=by
 rw[cE];have a:=rB s d;cases hl:s.data.toList with
 | nil=>rfl
 | cons c l=>
  rw[hl]at a;simp at a;rw[<-a]at b;simp[b]
def pL(k u:Int)(t:ap):av:=.agg #[ab k,ab u,af t,ae none 0 0]
theorem dA(a: -100000000000000<=u)(b:u<=100000000000000):dC u:=⟨by omega,by omega⟩
theorem yO{t:TypeId}(c:Below (w.alloc (.cells #[v0,v1,v2,v3] t)).heap.size (w.alloc (.cells #[v0,v1,v2,v3] t)) w'):(w'.cell? ⟨w.heap.size,0,none⟩=some v0/\w'.cell? ⟨w.heap.size,1,none⟩=some v1/\w'.cell? ⟨w.heap.size,2,none⟩=some v2/\w'.cell? ⟨w.heap.size,3,none⟩=some v3)/\ (w'.frozen? ⟨w.heap.size,0,none⟩=false/\w'.frozen? ⟨w.heap.size,1,none⟩=false/\w'.frozen? ⟨w.heap.size,2,none⟩=false/\w'.frozen? ⟨w.heap.size,3,none⟩=false):=by
 have a:=λo=>c.cell (p:=⟨w.heap.size,o,none⟩) (by simp);have b:=λo=>c.frozen (p:=⟨w.heap.size,o,none⟩) (by simp);exact⟨⟨(a 0).trans (by simp[go_sem]),(a 1).trans (by simp[go_sem]),(a 2).trans (by simp[go_sem]),(a 3).trans (by simp[go_sem])⟩,(b 0).trans (by simp[go_sem]),(b 1).trans (by simp[go_sem]),(b 2).trans (by simp[go_sem]),(b 3).trans (by simp[go_sem])⟩
theorem Dp(e:Below (w.alloc o).heap.size (w.alloc o) w')(a b c d:av):ak w ((((w'.setCell ⟨w.heap.size,0,none⟩ a).setCell ⟨w.heap.size,1,none⟩ b).setCell ⟨w.heap.size,2,none⟩ c).setCell ⟨w.heap.size,3,none⟩ d):=by
 have f:ak w w':=((aq _ _).alloc (ao _) _).trans (e.mono (by simp))
 go_grown
theorem Hl(s:ap)(w:ag)(C:s.size<=2048):am 109 #[af s] w λe w'=>LD s e/\ak w w':=by
 have K:=Eu s;by_cases g:0<s.size
 ·have p:=Ch g;have A:(s.toList=[])=False:=by simpa using p
  have i:=au (rB s g);have J:(1:Int)<=s.size:=by omega
  by_cases j:s[0]=95
  ·have c:Hid (fJ s=(s.toList==[95])/\((s.toList==[95])=true->lw s=(6,0,⟨#[]⟩))):=by
     simp only[Hid,fJ,lw,i.out,j,Gj s g (by simp[uN,j]) 13,GR s g (by simp[zu,j])];cases h:(s.toList==[95])<;>simp
   go_enter func109,ntmps109;go_wp2_with fail;exact az (v:=.tuple #[pL 6 0 ⟨#[]⟩,.bool (s.toList==[95])]) (by simp[results,results109,go_sem,pL]) rfl ⟨⟨6,0,⟨#[]⟩,_,rfl,c.1.symm,λh=>(c.2 h).symm,aL _,dA (by omega) (by omega),dA (by omega) (by omega)⟩,by go_grown⟩
  ·have d1:=kj (k:=95) (d:=95) rfl j;by_cases q:s[0]=35
   ·have c:Hid (fJ s=eZ (iv s) 2/\lw s=(3,lI (iv s).data.toList,⟨#[]⟩)):=by
      simp[Hid,fJ,lw,i.out,q]
    go_enter func109,ntmps109;go_wp2_with (go_at_call 145;refine(rJ 3 (iv s) _ (by omega)).mono ?_;rintro e w' ⟨⟨v,b,rfl,a⟩,f⟩;obtain⟨⟨l,m,n,o⟩,u,x,y,z⟩:=yO f;have HB:=au (Dp f);clear f);exact az (v:=.tuple #[pL 3 v ⟨#[]⟩,.bool b]) (by simp[results,results109,go_sem,pL,l,m,n,o]) rfl ⟨⟨3,v,⟨#[]⟩,_,rfl,by rw[c.out.1,a.out.1],λh=>by rw[c.out.2,a.out.2.2.2 h],aL _,dA (by omega) (by omega),dA (by have:=a.2.1;omega) (by have:=a.2.2.1;omega)⟩,HB _ _ _ _⟩
   ·have G:=kj (k:=35) (d:=35) rfl q;by_cases r:s[0]=36
    ·have c:Hid (fJ s=eZ (iv s) 2/\lw s=(5,lI (iv s).data.toList,⟨#[]⟩)):=by
       simp[Hid,fJ,lw,i.out,r]
     go_enter func109,ntmps109;go_wp2_with (go_at_call 145;refine(rJ 5 (iv s) _ (by omega)).mono ?_;rintro e w' ⟨⟨v,b,rfl,a⟩,f⟩;obtain⟨⟨l,m,n,o⟩,u,x,y,z⟩:=yO f;have HB:=au (Dp f);clear f);exact az (v:=.tuple #[pL 5 v ⟨#[]⟩,.bool b]) (by simp[results,results109,go_sem,pL,l,m,n,o]) rfl ⟨⟨5,v,⟨#[]⟩,_,rfl,by rw[c.out.1,a.out.1],λh=>by rw[c.out.2,a.out.2.2.2 h],aL _,dA (by omega) (by omega),dA (by have:=a.2.1;omega) (by have:=a.2.2.1;omega)⟩,HB _ _ _ _⟩
    ·have H:=kj (k:=36) (d:=36) rfl r;by_cases t:s[0]=45
     ·have c:Hid (fJ s=(eZ (iv s) 13 && !(lI (iv s).data.toList==0))/\lw s=(1,-lI (iv s).data.toList,⟨#[]⟩)):=by
        simp[Hid,fJ,lw,i.out,t]
      go_enter func109,ntmps109;go_wp2_with (go_at_call 146;refine(oz (iv s) 13 _ (by omega) (by omega)).mono ?_;rintro e w' ⟨⟨v,b,rfl,a⟩,rfl⟩;obtain⟨E,F⟩:=(⟨a.2.1,a.2.2.1⟩:0<=v/\v<100000000000000);cases b)
      ·exact az (v:=.tuple #[pL 1 (-v) ⟨#[]⟩,.bool false]) (by simp[results,results109,go_sem,pL]) rfl ⟨⟨1,-v,⟨#[]⟩,_,rfl,by rw[c.out.1,<-a.out.1];rfl,by simp,aL _,dA (by omega) (by omega),dA (by omega) (by omega)⟩,by go_grown⟩
      ·exact az (v:=.tuple #[pL 1 (-v) ⟨#[]⟩,.bool (v !=0)]) (by simp[results,results109,go_sem,pL]) rfl ⟨⟨1,-v,⟨#[]⟩,_,rfl,by rw[c.out.1,<-a.out.1,<-a.out.2.2.2 (by trivial)];simp[bne],λ_=>by rw[c.out.2,a.out.2.2.2 (by trivial)],aL _,dA (by omega) (by omega),dA (by omega) (by omega)⟩,by go_grown⟩
     ·have I:=kj (k:=45) (d:=45) rfl t;have c:Hid (fJ s=(eZ s 13 || gh s.data.toList)/\(lw s=if eZ s 13=true then (1,lI s.data.toList,⟨#[]⟩)else (2,0,s))):=by
       simp only[Hid,fJ,lw,i.out,N3 s g j];simp[q,r,t];cases eZ s 13<;>simp[g]
      go_enter func109,ntmps109
      go_wp2_with (first
       | (go_at_call 146;refine(oz s 13 _ (by omega) (by omega)).mono ?_;rintro e w' ⟨⟨v,b,rfl,a⟩,rfl⟩;obtain⟨E,F⟩:=(⟨a.2.1,a.2.2.1⟩:0<=v/\v<100000000000000);cases b)
       | (go_at_call 63;refine(Gb s _ C).mono ?_;rintro e L ⟨rfl,f⟩;obtain⟨⟨l,m,n,o⟩,u,x,y,z⟩:=yO f;have HB:=au (Dp f);clear f)
       | (go_at_call 110;refine(th s _ (by omega)).mono ?_;rintro e M ⟨rfl,rfl⟩))
      ·exact az (v:=.tuple #[pL 2 0 s,.bool (gh s.data.toList)]) (by simp[results,results109,go_sem,pL,l,m,n,o]) rfl ⟨⟨2,0,s,_,rfl,by rw[c.out.1,<-a.out.1];rfl,λ_=>by rw[c.out.2,<-a.out.1];rfl,ao _,dA (by omega) (by omega),dA (by omega) (by omega)⟩,HB _ _ _ _⟩
      ·exact az (v:=.tuple #[pL 1 v ⟨#[]⟩,.bool true]) (by simp[results,results109,go_sem,pL]) rfl ⟨⟨1,v,⟨#[]⟩,_,rfl,by rw[c.out.1,<-a.out.1];rfl,λ_=>by rw[c.out.2,<-a.out.1,a.out.2.2.2 (by trivial)];rfl,aL _,dA (by omega) (by omega),dA (by omega) (by omega)⟩,by go_grown⟩
 ·have p:=Cg g;have A:(s.toList=[])=True:=by simpa using p
  have c:Hid (fJ s=false):=by
   have D:s.size=0:=by omega
   have B:s.data.toList=[]:=by rw[<-cE];simpa using p
   simp[Hid,fJ,cE,eZ,B,D]
  go_enter func109,ntmps109;go_wp2_with fail;exact az (v:=.tuple #[pL 0 0 ⟨#[]⟩,.bool false]) (by simp[results,results109,go_sem,pL]) rfl ⟨⟨0,0,⟨#[]⟩,_,rfl,c.symm,by simp,aL _,dA (by omega) (by omega),dA (by omega) (by omega)⟩,by go_grown⟩
def N6(c:UInt8):Bool:=c==32
def zj(c:UInt8):Bool:=c==32 || c==40 || c==41
def fV(p:UInt8->Bool)(s:ap)(i:Nat):Nat:=i+((s.data.toList.drop i).takeWhile p).length
theorem E6(s:ap)(k:Nat)(a:k<s.size):s.data.toList.drop k=s[k]::s.data.toList.drop (k+1):=by
 rw[eM (by simpa using a)];rfl
theorem yh(a:k<s.size)(b:p s[k]=true):fV p s (k+1)=fV p s k:=by
 unfold fV;rw[E6 s k a,List.takeWhile_cons,if_pos b,br];omega
theorem yj(a:k<s.size)(b:p s[k]=false):fV p s k=k:=by
 unfold fV;rw[E6 s k a,List.takeWhile_cons,if_neg (by simp[b])];rfl
theorem Ci(a:¬k<s.size):fV p s k=k:=by
 unfold fV;rw[px (by simp;omega)];rfl
theorem zY(p:UInt8->Bool)(s:ap)(k:Nat):k<=fV p s k:=g9 _ _
theorem FD(p:UInt8->Bool)(s:ap)(k:Nat)(a:k<=s.size):fV p s k<=s.size:=by
 unfold fV;have b:=(List.takeWhile_sublist (l:=s.data.toList.drop k) p).length_le;have c:(s.data.toList.drop k).length=s.size-k:=by simp
 omega
def dK(s:ap)(i:Nat):Nat:=fV N6 s i
def eI(s:ap)(i:Nat):Nat:=if fV (λc=> !zj c) s (dK s i)=dK s i/\dK s i<s.size then dK s i+1 else fV (λc=> !zj c) s (dK s i)
theorem mS(s:ap)(i:Nat):i<=dK s i:=zY _ _ _
theorem CH(s:ap)(i:Nat)(a:i<=s.size):dK s i<=s.size:=FD _ _ _ a
theorem CI(s:ap)(i:Nat):dK s i<=eI s i:=by
 unfold eI;have:=zY (λc=> !zj c) s (dK s i);split<;>omega
theorem CJ(s:ap)(i:Nat)(a:i<=s.size):eI s i<=s.size:=by
 unfold eI;have:=FD (λc=> !zj c) s (dK s i) (CH s i a);split<;>omega
theorem r8(s:ap)(i:Nat)(a:dK s i<s.size):dK s i<eI s i:=by
 unfold eI;have:=zY (λc=> !zj c) s (dK s i);split<;>omega
theorem IL(s:ap)(i:Nat)(a:i<=s.size)(b:¬dK s i<s.size):dK s i=s.size/\eI s i=s.size:=by
 have c:=CH s i a;have d:=CJ s i a;have e:=CI s i;omega
def Rd(r:Nat)(s:ap)(b e:Nat)(w:ag):Prop:=w.heap[r]?=some (.cells #[af s,ab b,ab e] 146)
theorem Rd.cells{r:Nat}{s:ap}{b e:Nat}{w:ag}(a:Rd r s b e w):(w.cell? ⟨r,0,none⟩=some (af s)/\w.cell? ⟨r,1,none⟩=some (ab b)/\w.cell? ⟨r,2,none⟩=some (ab e))/\w.frozen? ⟨r,1,none⟩=false/\w.frozen? ⟨r,2,none⟩=false:=by
 unfold Rd at a;exact⟨⟨by simp[World.cell?,a],by simp[World.cell?,a],by simp[World.cell?,a]⟩,by simp[World.frozen?,a],by simp[World.frozen?,a]⟩
theorem Rd.set1(a:Rd r s b e w)(k:Nat):Rd r s k e (w.setCell ⟨r,1,none⟩ (ab k)):=by
 unfold Rd at*;simp[World.setCell,bO,a]
theorem Rd.set2(a:Rd r s b e w)(k:Nat):Rd r s b k (w.setCell ⟨r,2,none⟩ (ab k)):=by
 unfold Rd at*;simp[World.setCell,bO,a]
theorem Rd.drew(a:Rd r s b e w)(n:Nat):Rd r s b e (w.drewN n):=a
theorem Rd.lt(a:Rd r s b e w):r<w.heap.size:=(aJ.1 a).1
theorem mG(w:ag)(r o:Nat)(v:av):w.grownBy (w.setCell ⟨r,o,none⟩ v) (some r):=
 ⟨rfl,rfl,rfl,by simp[World.setCell],λk _ b=>fi w _ v k (λa=>b (by rw[a]))⟩
theorem eS(w:ag)(n:Nat)(q:Option Nat):w.grownBy (w.drewN n) q:=⟨rfl,rfl,rfl,ao _,λ_ _ _=>rfl⟩
theorem b9(a:w.grownBy w1 q)(k:w1.grownBy w2 q):w.grownBy w2 q:=
 ⟨k.os.trans a.os,k.tape.trans a.tape,k.output.trans a.output,aD a.size k.size,λd b c=>(k.block d (aW b a.size) c).trans (a.block d b c)⟩
theorem JB(c:UInt8)(w:ag):am 107 #[.int .u8 c.toNat] w λe w'=>e=.returned (.bool (zj c))/\w'=w:=by
 by_cases a:c=32
 ·subst a;go_enter func107,ntmps107;go_wp2_with fail
  all_goals go_ret
  all_goals exact⟨rfl,rfl⟩
 ·have d1:=kj (k:=32) (d:=32) rfl a;by_cases b:c=40
  ·subst b;go_enter func107,ntmps107;go_wp2_with fail
   all_goals go_ret
   all_goals exact⟨rfl,rfl⟩
  ·have g:=kj (k:=40) (d:=40) rfl b;by_cases f:c=41
   ·subst f;go_enter func107,ntmps107;go_wp2_with fail
    all_goals go_ret
    all_goals exact⟨rfl,rfl⟩
   ·have h:=kj (k:=41) (d:=41) rfl f;go_enter func107,ntmps107;go_wp2_with fail
    all_goals go_ret
    all_goals exact⟨bU (by rw[show zj c=false by simp[zj,a,b,f]];simp;omega),rfl⟩
theorem Lq(r:Nat)(s:ap)(b e:Nat)(w:ag)(a:Rd r s b e w)(j:b<=e)(l:e<=s.size):am 70 #[aH r] w λc w'=>c=.returned (af (s.extract b e))/\∃n,w'=w.drewN n:=by
 obtain⟨⟨d,f,g⟩,h,i⟩:=a.cells;clear a;have k:(b:Int)<=e:=by omega
 have m:(e:Int)<=s.size:=by omega
 go_enter func70,ntmps70;go_wp2_with fail
 go_quiet (fail)
 go_wp2_with fail
 go_ret
 exact⟨by simp,_,rfl⟩
theorem qx(a:w.grownBy w1 q)(c:w2.os=w1.os)(d:w2.tape=w1.tape)(e:w2.output=w1.output)(b:w2.heap=w1.heap):w.grownBy w2 q:=
 ⟨c.trans a.os,d.trans a.tape,e.trans a.output,by rw[b];exact a.size,λk f g=>by rw[b];exact a.block k f g⟩
theorem E7(c:UInt8)(w:ag)(b:Bool)(a:zj c=b):am 107 #[.int .u8 c.toNat] w λe w'=>e=.returned (.bool b)/\w'=w:=by
 rw[<-a];exact JB c w
theorem rH(r:Nat)(s:ap)(H g:Nat)(w:ag)(e:Rd r s H g w)(L:g<=s.size)(X:s.size<=2048):am 68 #[aH r] w λI w'=>I=.returned (.tuple #[])/\Hid (Rd r s (dK s g) (eI s g) w'/\w.grownBy w' (some r)):=by
 obtain⟨⟨B,v,x⟩,C,D⟩:=e.cells;have z:=au (⟨e.set1 g,mG w r 1 (ab g)⟩:_/\_);clear e;go_enter func68,ntmps68;go_wp2_with fail;go_loopw [] (λwr=>∃k:Nat,k<=s.size/\Hid (Rd r s k g wr/\w.grownBy wr (some r)/\fV N6 s k=dK s g)/\True) (λwr=>s.size-(intOf ((wr.cell? ⟨r,1,none⟩).getD undef)).toNat)
 case atStart=>exact⟨g,L,⟨z.1,z.2,rfl⟩,trivial⟩
 case round=>
  obtain⟨k,M,j,_⟩:=hrel;obtain⟨⟨B,v,x⟩,C,D⟩:=j.out.1.cells;by_cases h:∃e:k<s.size,s[k]=32
  ·obtain⟨b,J⟩:=h;have N:(k:Int)<s.size:=by omega
   have E:decide ((k:Int)<s.size)=true:=by simp;omega
   have u:=au (yh (p:=N6) b (by simp[N6,J]));go_wp2_with fail
   go_quiet (fail)
   go_wp2_with fail;go_roundw
   case rel=>exact⟨k+1,by omega,⟨(j.1.drew nq).set1 (k+1),b9 j.2.1 (b9 (eS wr nq _) (mG _ _ _ _)),by rw[u.out];exact j.2.2⟩,trivial⟩
   case measure=>simp[go_sem,v,intOf];omega
  ·have i:Hid (dK s g=k):=by
     rw[<-j.out.2.2];by_cases b:k<s.size
     ·exact yj (p:=N6) b (by simp[N6];exact λe=>h ⟨b,e⟩)
     ·exact Ci (p:=N6) b
   have K:((¬k<s.size)/\decide ((k:Int)<s.size)=false)\/((k:Int)<s.size/\decide ((k:Int)<s.size)=true/\∃e:k<s.size,((s[k].toNat:Int)==32)=false):=by
    by_cases b:k<s.size
    ·have U:=kj (k:=32) (d:=32) rfl (λe=>h ⟨b,e⟩);exact aj ⟨by omega,by simp;omega,b,by simp;omega⟩
    ·exact ai ⟨b,by simp;omega⟩
   clear h;rcases K with⟨b,E⟩|⟨N,E,b,V⟩
   all_goals
    go_wp2_with fail
    go_quiet (fail)
    have A:=au (show Rd r s k k ((wr.drewN nq).setCell ⟨r,2,none⟩ (ab k))/\w.grownBy ((wr.drewN nq).setCell ⟨r,2,none⟩ (ab k)) (some r)from⟨(j.1.drew nq).set2 k,b9 j.2.1 (b9 (eS wr nq _) (mG _ _ _ _))⟩);go_wp2_with fail;go_loopw [] (λq=>∃a:Nat,a<=s.size/\k<=a/\Hid (Rd r s k a q/\w.grownBy q (some r)/\fV (λc=> !zj c) s a=fV (λc=> !zj c) s k)/\True) (λq=>s.size-(intOf ((q.cell? ⟨r,2,none⟩).getD undef)).toNat)
    case atStart=>exact⟨k,M,ao _,⟨A.1,A.2,rfl⟩,trivial⟩
    case round=>
     obtain⟨a,W,F,f,_⟩:=hrel;obtain⟨⟨B,v,x⟩,C,D⟩:=f.out.1.cells;by_cases h:∃e:a<s.size,zj s[a]=false
     ·obtain⟨n,o⟩:=h;have y:k<s.size:=Nat.lt_of_le_of_lt F n
      first|exact absurd y b|skip
      all_goals
       have T:(a:Int)<s.size:=by omega
       have G:decide ((a:Int)<s.size)=true:=by simp;omega
       have u:=au (yh (p:=λc=> !zj c) n (by simp[o]));go_wp2_with fail
       go_quiet ((go_at_call 107;exact Calls.quiet_of_same (E7 s[a] _ _ o)))
       go_wp2_with fail;go_roundw
       case rel=>exact⟨a+1,by omega,by omega,⟨(f.1.drew _).set2 (a+1),b9 f.2.1 (b9 (eS _ _ _) (mG _ _ _ _)),by rw[u.out];exact f.2.2⟩,trivial⟩
       case measure=>simp[go_sem,x,intOf];omega
     ·have t:Hid (fV (λc=> !zj c) s k=a):=by
        rw[<-f.out.2.2];by_cases b:a<s.size
        ·exact yj (p:=λc=> !zj c) b (by simp;cases e:zj s[a];exact absurd ⟨b,e⟩ h;rfl)
        ·exact Ci (p:=λc=> !zj c) b
      have S:((¬a<s.size)/\decide ((a:Int)<s.size)=false)\/((a:Int)<s.size/\decide ((a:Int)<s.size)=true/\∃e:a<s.size,zj s[a]=true):=by
       by_cases b:a<s.size
       ·exact aj ⟨by omega,by simp;omega,b,by cases e:zj s[a];exact absurd ⟨b,e⟩ h;rfl⟩
       ·exact ai ⟨b,by simp;omega⟩
      clear h;rcases S with⟨n,G⟩|⟨T,G,n,o⟩
      ·have m:Hid (eI s g=a):=by
         simp only[Hid,eI,i.out,t.out];rw[if_neg (by omega)]
       go_wp2_with fail
       go_quiet (fail)
       go_wp2_with fail;by_cases l:a=k
       ·first|exact absurd (show a<s.size by omega) n|skip
        all_goals
         subst l
         go_quiet (fail)
         go_wp2_with fail
         go_end0
         refine⟨rfl,?_,qx f.2.1 rfl rfl rfl rfl⟩;rw[i.out,m.out];exact f.1
       ·first|exact absurd (show a=k by omega) l|skip
        all_goals
         have O:((a:Int)==k)=false:=by simp;omega
         have P:(a==k)=false:=by simp;omega
         have Q:decide (a=k)=false:=by simp;omega
         have R:decide ((a:Int)=k)=false:=by simp;omega
         clear l
         go_quiet (fail)
         go_wp2_with fail
         go_end0
         refine⟨rfl,?_,qx f.2.1 rfl rfl rfl rfl⟩;rw[i.out,m.out];exact f.1
      ·have y:k<s.size:=Nat.lt_of_le_of_lt F n
       first|exact absurd y b|skip
       all_goals
        go_wp2_with fail
        go_quiet ((go_at_call 107;exact Calls.quiet_of_same (E7 s[a] _ _ o)))
        go_wp2_with fail;by_cases l:a=k
        ·have m:Hid (eI s g=a+1):=by
           simp only[Hid,eI,i.out,t.out];rw[if_pos ⟨l,by omega⟩];omega
         subst l
         go_quiet (fail)
         go_wp2_with fail
         go_end0
         refine⟨rfl,?_,b9 f.2.1 (b9 (eS _ _ _) (mG _ _ _ _))⟩;rw[i.out,m.out];exact Rd.set2 f.1 (a+1)
        ·have m:Hid (eI s g=a):=by
           simp only[Hid,eI,i.out,t.out];rw[if_neg (by omega)]
         have O:((a:Int)==k)=false:=by simp;omega
         have P:(a==k)=false:=by simp;omega
         have Q:decide (a=k)=false:=by simp;omega
         have R:decide ((a:Int)=k)=false:=by simp;omega
         clear l
         go_quiet (fail)
         go_wp2_with fail
         go_end0
         refine⟨rfl,?_,qx f.2.1 rfl rfl rfl rfl⟩;rw[i.out,m.out];exact f.1
abbrev fL:Type:=Nat×ap
def CT(x:ap):Bool:=x.toList==[40]
def zo(x:ap):Bool:=x.toList==[41]
theorem Mq{c:UInt8}(a:(x.toList==[c])=true):x.data.toList=[c]/\x.size=1:=by
 rw[cE]at a;have b:x.data.toList=[c]:=by simpa using a
 refine⟨b,?_⟩;have:x.data.toList.length=x.size:=by simp
 rw[b]at this;simpa using this.symm
theorem vo(a:zo x=true):fJ x=false/\CT x=false:=by
 obtain⟨b,c⟩:=Mq a;simp[fJ,CT,eZ,cE,b,iP,uN,gh,zu]
def EK{a:Type}(f:a->List fL->List fL->Prop):List a->List fL->List fL->Prop
 | [],ts,r=>ts=r
 | x::l,ts,r=>∃m,f x ts m/\EK f l m r
def Is:(n:Nat)->Tm n->List fL->List fL->Prop
 | 0,_,_,_=>False
 | n+1,x,ts,r=>∃t a,ts=t::a/\((CT t.2=false/\fJ t.2=true/\x.1=lw t.2/\x.2.2=[]/\r=a)\/
    (CT t.2=true/\x.1=(4,0,⟨#[]⟩)/\∃c,EK (Is n) x.2.2 a (c::r)/\zo c.2=true))
theorem EK.snoc{b:Type}{f:b->List fL->List fL->Prop}{x:b}{r:List fL}:{l:List b}->{a m:List fL}->EK f l a m->f x m r->EK f (l++ [x]) a r
 | [],a,m,h,hx=>by
  have e:a=m:=h;subst e;exact⟨r,hx,rfl⟩
 | y::l,a,m,h,hx=>by
  obtain⟨q,c,d⟩:=h;exact⟨q,c,d.snoc hx⟩
variable{f:List fL}
theorem Is.head{x:Tm n}{r:List fL}(a:Is n x f r):∃t b,f=t::b/\zo t.2=false:=by
 cases n with
 | zero=>exact a.elim
 | succ n=>
  obtain⟨t,b,rfl,a⟩:=a;refine⟨t,b,rfl,?_⟩;cases hc:zo t.2
  ·rfl
  ·have:=vo hc;rcases a with a|a
   ·rw[this.1]at a;exact absurd a.2.1 (by simp)
   ·rw[this.2]at a;exact absurd a.1 (by simp)
theorem EK.one{n m:Nat}(ih:∀(x:Tm n)(y:Tm m)(d r f:List fL),Is n x d r->Is m y d f->aB n x m y=true/\r=f):(p:List (Tm n))->(q:List (Tm m))->(d:List fL)->(c i:fL)->(r f:List fL)->zo c.2=true->zo i.2=true->EK (Is n) p d (c::r)->EK (Is m) q d (i::f)->aG (λa b=>aB n a m b) p q=true/\r=f
 | [],[],d,c,i,r,f,hc,hc',h,h'=>by
  have j:d=c::r:=h;have g:d=i::f:=h';rw[j]at g;injection g with _ e;exact⟨rfl,e⟩
 | [],y::q,d,c,i,r,f,hc,hc',h,h'=>by
  have j:d=c::r:=h;obtain⟨A,k,_⟩:=h';obtain⟨t,C,g,l⟩:=k.head;rw[j]at g;injection g with e _;rw[<-e,hc]at l;exact absurd l (by simp)
 | x::p,[],d,c,i,r,f,hc,hc',h,h'=>by
  have j:d=i::f:=h';obtain⟨A,k,_⟩:=h;obtain⟨t,C,g,l⟩:=k.head;rw[j]at g;injection g with e _;rw[<-e,hc']at l;exact absurd l (by simp)
 | x::p,y::q,d,c,i,r,f,hc,hc',h,h'=>by
  obtain⟨o,k,v⟩:=h;obtain⟨B,w,z⟩:=h';obtain⟨j,g⟩:=ih x y d o B k w;subst g;obtain⟨s,u⟩:=EK.one ih p q o c i r f hc hc' v z;exact⟨by simp only[aG];rw[j,s];rfl,u⟩
theorem Is.one:(n:Nat)->(m:Nat)->(x:Tm n)->(y:Tm m)->(f r b:List fL)->Is n x f r->Is m y f b->aB n x m y=true/\r=b
 | 0,_,_,_,_,_,_,a,_=>a.elim
 | _+1,0,_,_,_,_,_,_,a=>a.elim
 | n+1,m+1,x,y,f,r,b,a,g=>by
  obtain⟨t,z,rfl,a⟩:=a;obtain⟨t2,A,e,g⟩:=g;injection e with h i;subst h i;rcases a with⟨o,_,l,j,v⟩|⟨o,l,c,j,s⟩
  ·rcases g with⟨_,_,p,k,w⟩|⟨d,_⟩
   ·refine⟨?_,v.trans w.symm⟩;simp only[aB,l,p,j,k,aG];simp
   ·rw[o]at d;exact absurd d (by simp)
  ·rcases g with⟨d,_⟩|⟨_,p,q,k,u⟩
   ·rw[o]at d;exact absurd d (by simp)
   ·obtain⟨h,i⟩:=EK.one (λx y f r b=>Is.one n m x y f r b) x.2.2 y.2.2 z c q r b s u j k;refine⟨?_,i⟩;simp only[aB,l,p,h];simp
theorem uc:(n:Nat)->(x:Tm n)->(a r:List fL)->Is n x a r->(aC n x).length+r.length<=a.length
 | 0,_,_,_,b=>b.elim
 | n+1,x,a,r,b=>by
  have key:∀(l:List (Tm n))(a r:List fL),EK (Is n) l a r->(l.flatMap λy=>aC n y).length+r.length<=a.length:=by
   intro l
   induction l with
   | nil=>intro a r b;have f:a=r:=b;subst f;simp
   | cons y l ih=>
    intro a r b;obtain⟨e,g,h⟩:=b;have:=uc n y a e g;have:=ih e r h;simp only[bK,bw];omega
  obtain⟨t,k,rfl,b⟩:=b;simp only[aC,br];rcases b with⟨o,_,j,d,i⟩|⟨o,j,c,d,m⟩
  ·rw[d,i];simp;omega
  ·have:=key x.2.2 k (c::r) d;simp only[br]at this;omega
def j0(L:Nat):List fL->Nat->Option Nat
 | [],0=>none
 | [],_+1=>some L
 | t::_,0=>some t.1
 | t::ts,d+1=>if CT t.2 then j0 L ts (d+2)else if zo t.2 then j0 L ts d else if fJ t.2 then j0 L ts (d+1)else some t.1
def CS(L:Nat):List fL->Nat->Option Nat
 | [],_=>some L
 | t::ts,d=>if CT t.2 then j0 L ts (d+1)else if fJ t.2 then j0 L ts d else some t.1
def Ky(L:Nat):List fL->Nat
 | []=>L
 | t::_=>t.1
theorem Ce(L:Nat)(a:List fL)(d:Nat)(b:∀t c,a=t::c->zo t.2=false):j0 L a (d+1)=CS L a (d+1):=by
 cases a with
 | nil=>rfl
 | cons t a=>simp only[j0,CS];rw[b t a rfl];simp
theorem Ef(L:Nat)(t:fL)(b:List fL)(d:Nat)(a:zo t.2=true):j0 L (t::b) (d+1)=j0 L b d:=by
 simp only[j0];rw[(vo a).2,a];simp
theorem xZ{c β:Type}(f:c->β->Bool):(p:List c)->(q:List β)->aG f p q=true->p.length=q.length
 | [],[],_=>rfl
 | [],_::_,h=>by simp[aG]at h
 | _::_,[],h=>by simp[aG]at h
 | a::p,b::q,h=>by
  simp only[aG,aK]at h;simp[xZ f p q h.2]
theorem Mn{k b e:Int}{d:ap}{l:Nat}(f:k=b)(g:u=e)(h:s=d)(i:l=j):cJ ((k,u,s),(a,l,c))=cJ ((b,e,d),(z,j,y)):=by
 subst f g h i;rfl
theorem tx:(n m:Nat)->(x:Tm n)->(y:Tm m)->aB n x m y=true->ch n x=ch m y/\fI n x=fI m y/\sz n x=sz m y
 | 0,_,_,_,c=>by simp[aB]at c
 | _+1,0,_,_,c=>by simp[aB]at c
 | n+1,m+1,x,y,c=>by
  have key:∀(p:List (Tm n))(q:List (Tm m)),aG (λa b=>aB n a m b) p q=true->
    (p.all λy=>ch n y)=(q.all λy=>ch m y)/\(∀a,p.foldl (λm y=>max m (fI n y)) a=q.foldl (λk y=>max k (fI m y)) a)/\(p.map λy=>1+sz n y).sum=(q.map λy=>1+sz m y).sum:=by
   intro p
   induction p with
   | nil=>
    intro q c;cases q with
    | nil=>simp
    | cons b q=>simp[aG]at c
   | cons a p ih=>
    intro q c;cases q with
    | nil=>simp[aG]at c
    | cons b q=>
     simp only[aG,aK]at c;obtain⟨j,l,o⟩:=tx n m a b c.1;obtain⟨e,f,g⟩:=ih q c.2;refine⟨by simp only[jn,j,e],λv=>?_,by simp only[aU,bN,o,g]⟩;simp only[gD,l];exact f _
  simp only[aB,aK,cF]at c;obtain⟨⟨⟨d,r⟩,h⟩,i⟩:=c;obtain⟨e,f,g⟩:=key _ _ i;have t:=xZ _ _ _ i;have u:x.1.2.2=y.1.2.2:=by
   rw[cE,cE]at h;exact ByteArray.ext (Array.toList_inj.1 h)
  refine⟨?_,?_,?_⟩
  ·have s:cJ (bI n x)=cJ (bI m y):=Mn d r u t;simp only[ch,s,d,e]
  ·simp only[fI,d,f]
  ·simp only[sz,d,g]
theorem Hv(n m:Nat)(x:Tm n)(y:Tm m)(a:aB n x m y=true):bE n x=bE m y:=by
 obtain⟨b,c,d⟩:=tx n m x y a;rw[<-gz,<-gz];simp only[wX,b,c,d]
def rY:Nat->ap->Nat->List fL
 | 0,_,_=> []
 | f+1,s,i=>if dK s i<s.size then (dK s i,s.extract (dK s i) (eI s i))::rY f s (eI s i)else []
def jV(s:ap)(i:Nat):List fL:=rY (s.size-i) s i
theorem nL(s:ap):(f g i:Nat)->s.size-i<=f->s.size-i<=g->rY f s i=rY g s i
 | 0,0,_,_,_=>rfl
 | 0,g+1,i,h,_=>by
  have:=mS s i;simp only[rY];rw[if_neg (by omega)]
 | f+1,0,i,_,h=>by
  have:=mS s i;simp only[rY];rw[if_neg (by omega)]
 | f+1,g+1,i,h,h'=>by
  simp only[rY];by_cases a:dK s i<s.size
  ·rw[if_pos a,if_pos a];have b:=r8 s i a;have c:=mS s i;rw[nL s f g (eI s i) (by omega) (by omega)]
  ·rw[if_neg a,if_neg a]
theorem yt(s:ap)(i:Nat)(a:dK s i<s.size):jV s i=(dK s i,s.extract (dK s i) (eI s i))::jV s (eI s i):=by
 have b:=r8 s i a;have c:=mS s i;unfold jV;rw[nL s (s.size-i) (s.size-i+1) i (by omega) (by omega)];simp only[rY];rw[if_pos a,nL s (s.size-i) (s.size-eI s i) (eI s i) (by omega) (by omega)]
theorem wg(s:ap)(i:Nat)(a:¬dK s i<s.size):jV s i=[]:=by
 unfold jV;rw[nL s (s.size-i) (s.size-i+1) i (by omega) (by omega)];simp only[rY];rw[if_neg a]
theorem lV(s:ap):(f i:Nat)->s.size-i<=f->(jV s i).length<=s.size-i
 | 0,i,h=>by
  have:=mS s i;rw[wg s i (by omega)];simp
 | f+1,i,h=>by
  by_cases a:dK s i<s.size
  ·have b:=r8 s i a;have c:=mS s i;rw[yt s i a];have:=lV s f (eI s i) (by omega);simp only[br];omega
  ·rw[wg s i a];simp
def At(s:ap)(b e:Nat)(a:List fL):Prop:=
 b<=e/\e<=s.size/\((b=s.size/\a=[])\/(b<e/\a=(b,s.extract b e)::jV s e))
theorem At.next{i:Nat}(b:i<=s.size):At s (dK s i) (eI s i) (jV s i):=by
 refine⟨CI s i,CJ s i b,?_⟩;by_cases a:dK s i<s.size
 ·exact aj ⟨r8 s i a,yt s i a⟩
 ·exact ai ⟨(IL s i b a).1,wg s i a⟩
theorem At.pos(a:At s b e f):Ky s.size f=b:=by
 rcases a.2.2 with⟨c,rfl⟩|⟨_,rfl⟩
 ·exact c.symm
 ·rfl
theorem At.nil(a:At s b e []):(s.extract b e).toList=[]:=by
 rcases a.2.2 with⟨d,_⟩|⟨_,c⟩
 ·rw[cE];apply bJ;have:=a.2.1;simp;omega
 ·exact absurd c (by simp)
theorem At.cons{s:ap}{b e:Nat}{t:fL}{d:List fL}(c:At s b e (t::d)):t=(b,s.extract b e)/\d=jV s e/\0<(s.extract b e).size:=by
 rcases c.2.2 with⟨_,a⟩|⟨h,a⟩
 ·exact absurd a (by simp)
 ·injection a with f g;refine⟨f,g,?_⟩;have:=c.2.1;simp;omega
-- Sign by sign:what a sign does to the words ahead.
theorem fT(a:w.grownBy w1 q)(o:Obj):w.grownBy (w1.alloc o) q:=
 ⟨a.os,a.tape,a.output,by have:=a.size;simp;omega,λk b c=>by
  exact(((aq w1.heap.size w1).alloc (ao _) o).block k (aW b a.size)).trans (a.block k b c)⟩
theorem mF(a:w.grownBy w1 q)(e:w.heap.size<=b)(o:Nat)(v:av):w.grownBy (w1.setCell ⟨b,o,none⟩ v) q:=
 ⟨a.os,a.tape,a.output,by simpa [World.setCell]using a.size,λk c d=>(fi w1 ⟨b,o,none⟩ v k (by simp;omega)).trans (a.block k c d)⟩
theorem GW(a:w.grownBy w1 q){g:Option Nat}(k:w1.grownBy w2 g)(f:∀b,g=some b->w.heap.size<=b):w.grownBy w2 q:=
 ⟨k.os.trans a.os,k.tape.trans a.tape,k.output.trans a.output,aD a.size k.size,λc d h=>(k.block c (aW d a.size) (λe=>by have:=f c e.symm;omega)).trans (a.block c d h)⟩
theorem ov(a:w.grownBy w1 q)(k:ak w1 w2):w.grownBy w2 q:=
 ⟨k.os.trans a.os,k.tape.trans a.tape,k.output.trans a.output,aD a.size k.size,λc b d=>(k.block c (aW b a.size)).trans (a.block c b d)⟩
theorem Rd.block(a:Rd r s b e w)(k:w'.heap[r]?=w.heap[r]?):Rd r s b e w':=k.trans a
theorem Rd.alloc{r:Nat}{s:ap}{b e:Nat}{w:ag}(a:Rd r s b e w)(o:Obj):Rd r s b e (w.alloc o):=
 a.block (((aq w.heap.size w).alloc (ao _) o).block r a.lt)
theorem Rd.far(a:Rd r s b e w){g:Nat}(c:r<g)(o:Nat)(v:av):Rd r s b e (w.setCell ⟨g,o,none⟩ v):=
 a.block (fi w ⟨g,o,none⟩ v r (by simp;omega))
def ahead(s:ap)(b e:Nat):List fL:=if b<s.size then (b,s.extract b e)::jV s e else []
def Pf(r:Nat)(s:ap)(w:ag):Nat:=(ahead s (intOf ((w.cell? ⟨r,1,none⟩).getD undef)).toNat (intOf ((w.cell? ⟨r,2,none⟩).getD undef)).toNat).length
theorem Kf(d:Rd r s b e w)(k:At s b e f):Pf r s w=f.length:=by
 obtain⟨⟨h,a,c⟩,i,j⟩:=d.cells;simp only[Pf,a,c,Option.getD_some,intOf,Int.toNat_natCast,ahead];rcases k.2.2 with⟨g,rfl⟩|⟨g,rfl⟩
 ·rw[if_neg (by omega)]
 ·rw[if_pos (by have:=k.2.1;omega)]
def lY(n:Nat)(s:ap)(r:Nat)(e:List fL)(w w':ag)(v:av)(ok:Bool):Prop:=
 w.grownBy w' (some r)/\∃b f c,Rd r s b f w'/\At s b f c/\
  (ok=true->(∃d:Tm n,dw n d=v/\Is n d e c/\In w'.heap.size w' n d/\cr (λg=>w.heap.size<=g) n d)/\∀a,CS s.size e a=j0 s.size c a)/\
  (ok=false->∀a,CS s.size e a=some (Ky s.size c))
def LG(n:Nat)(s:ap)(r:Nat)(d:List fL)(w w':ag)(e:Ending):Prop:=
 ∃(k b:Int)(t:ap)(a:aw)(l c:Nat)(ok:Bool),e=.returned (.tuple #[.agg #[ab k,ab b,af t,ae a l c],.bool ok])/\
  Hid (lY n s r d w w' (.agg #[ab k,ab b,af t,ae a l c]) ok)
def Nq(n:Nat):Prop:=∀(r:Nat)(s:ap)(b e:Nat)(a:List fL)(w:ag),Rd r s b e w->At s b e a->s.size<=2048->a.length<=n->
 am 69 #[aH r] w λc w'=>LG (n+1) s r a w w' c
theorem pj(r:Nat)(s:ap)(b e:Nat)(x:ap)(w:ag)(c:Rd r s b e w)(d:b<=e)(f:e<=s.size)(g:s.extract b e=x):am 70 #[aH r] w λa w'=>a=.returned (af x)/\∃n,w'=w.drewN n:=by
 subst g;exact Lq r s b e w c d f
def Bx(q:Nat)(v0 v1 v2 v3:av)(w:ag):Prop:=w.heap[q]?=some (.cells #[v0,v1,v2,v3] 31)
theorem Bx.cells{q:Nat}{v0 v1 v2 v3:av}{w:ag}(a:Bx q v0 v1 v2 v3 w):(w.cell? ⟨q,0,none⟩=some v0/\w.cell? ⟨q,1,none⟩=some v1/\w.cell? ⟨q,2,none⟩=some v2/\w.cell? ⟨q,3,none⟩=some v3)/\ (w.frozen? ⟨q,0,none⟩=false/\w.frozen? ⟨q,1,none⟩=false/\w.frozen? ⟨q,2,none⟩=false/\w.frozen? ⟨q,3,none⟩=false):=by
 unfold Bx at a;exact⟨⟨by simp[World.cell?,a],by simp[World.cell?,a],by simp[World.cell?,a],by simp[World.cell?,a]⟩,by simp[World.frozen?,a],by simp[World.frozen?,a],by simp[World.frozen?,a],by simp[World.frozen?,a]⟩
theorem Bx.block{q:Nat}(a:Bx q v0 v1 v2 v3 w)(k:w'.heap[q]?=w.heap[q]?):Bx q v0 v1 v2 v3 w':=k.trans a
theorem Bx.lt{q:Nat}(a:Bx q v0 v1 v2 v3 w):q<w.heap.size:=(aJ.1 a).1
theorem Bx.set3{q:Nat}(a:Bx q v0 v1 v2 v3 w)(v:av):Bx q v0 v1 v2 v (w.setCell ⟨q,3,none⟩ v):=by
 unfold Bx at*;simp[World.setCell,bO,a]
theorem Bx.new(w:ag)(v0 v1 v2 v3:av):Bx w.heap.size v0 v1 v2 v3 (w.alloc (.cells #[v0,v1,v2,v3] 31)):=aF w _
def IZ(n:Nat)(r:Nat)(s:ap)(c:List fL)(w:ag)(b e:Nat)(v:av)(wr:ag)(l:List (Tm (n+1)))(a:List fL):Prop:=
 Rd r s b e wr/\At s b e a/\(w.alloc (.cells #[ab 0,ab 0,af ⟨#[]⟩,ae none 0 0] 31)).grownBy wr (some r)/\qX (w.heap.size+2) (n+1) l v wr/\
  Bx w.heap.size (ab 0) (ab 0) (af ⟨#[]⟩) (ae none 0 0) wr/\Bx (w.heap.size+1) (ab 4) (ab 0) (af ⟨#[]⟩) v wr/\
  EK (Is (n+1)) l c a/\a.length<=c.length/\∀d,j0 s.size c (d+1)=j0 s.size a (d+1)
def LI(n:Nat)(r:Nat)(s:ap)(c:List fL)(w:ag)(b e:Nat)(v:av)(wr:ag):Prop:=
 ∃(l:List (Tm (n+1)))(a:List fL),IZ n r s c w b e v wr l a
theorem fP(w:ag)(o:Obj){q:Nat}(a:q<w.heap.size):(w.alloc o).heap[q]?=w.heap[q]? :=(cX w o none).block q a (by simp)
variable{i:fL}
theorem IB(h:Rd r s b e w)(a:At s b e (i::f))(k:Rd r s (dK s e) (eI s e) w1)(g:((w.alloc (.cells #[ab 0,ab 0,af ⟨#[]⟩,ae none 0 0] 31)).alloc (.cells #[ab 4,ab 0,af ⟨#[]⟩,ae none 0 0] 31)).grownBy w1 (some r)):LI n r s f w (dK s e) (eI s e) (ae none 0 0) w1:=by
 have j:=h.lt;have c:=(At.cons a).2.1;refine⟨[],f,k,by rw[c];exact At.next a.2.1,b9 (cX _ _ _) g,⟨⟨rfl,ai ⟨rfl,rfl⟩⟩,by simp⟩,?_,?_,rfl,ao _,λ_=>rfl⟩
 ·exact((Bx.new w _ _ _ _).block (fP _ _ (by simp))).block (g.block _ (by simp;omega) (by simp;omega))
 ·have:=Bx.new (w.alloc (.cells #[ab 0,ab 0,af ⟨#[]⟩,ae none 0 0] 31)) (ab 4) (ab 0) (af ⟨#[]⟩) (ae none 0 0);have d:(w.alloc (.cells #[ab 0,ab 0,af ⟨#[]⟩,ae none 0 0] 31)).heap.size=w.heap.size+1:=by simp
  rw[d]at this;exact this.block (g.block _ (by simp) (by simp;omega))
theorem qX.kept{base n:Nat}{l:List (Tm n)}{v:av}{w w':ag}(a:qX base n l v w){r:Nat}(g:w.grownBy w' (some r))(k:r<base):qX base n l v w':=by
 refine⟨a.1.kept g (aj λf=>by have:=a.1.lt r f;omega),λe d=>⟨?_,(a.2 e d).2⟩⟩;obtain⟨c,h⟩:=a.2 e d;have i:=In.offB h c;exact(In.off (λb j=>g.block b j.2 (by simp;omega)) i c).mono g.size
theorem qX.snoc{base:Nat}{l:List (Tm (n+1))}{w0:ag}(h:qX base (n+1) l v w0)(i:w0.grownBy w (some r))(A:r<base){x:Tm (n+1)}(C:In w.heap.size w (n+1) x)(y:cr (λq=>w0.heap.size<=q) (n+1) x)(D:base<=w0.heap.size)(j:w.grownBy w1 none){g:Nat}(z:w2.ownsRow base 31 4 (ae (some ⟨g,0,none⟩) (l.length+1) c) (l.length+1) (cH (l.map (gu (n+1)))++vA (gu (n+1) x)))(k:w1.grownBy w2 v.ownBlock)(u:v.ownBlock=some g\/g=w1.heap.size):qX base (n+1) (l++ [x]) (ae (some ⟨g,0,none⟩) (l.length+1) c) w2:=by
 have p:=h.kept i A;have E:=i.size;have F:=j.size;have G:=k.size;have B:∀b,v.ownBlock=some b->b<w0.heap.size:=λb d=>(h.1.lt b d).2;refine⟨by simpa [cH]using z,λa f=>?_⟩
 have key:∀a:Tm (n+1),In w.heap.size w (n+1) a->cr (λb=>base<=b/\v.ownBlock≠some b) (n+1) a->
   In w2.heap.size w2 (n+1) a/\cr (λb=>base<=b/\(Value.slice (some ⟨g,0,none⟩) (l.length+1) c).ownBlock≠some b) (n+1) a:=by
  intro a m t;have o:=In.offB t m;refine⟨(In.off (λb e=>(k.block b (by omega) (λd=>e.1.2 d.symm)).trans (j.block b e.2 (by simp))) o m).mono (by omega),o.mono λb e=>⟨e.1.1,?_⟩⟩;intro d;have s:g=b:=by simpa [Value.ownBlock]using d
  rcases u with h|h
  ·exact e.1.2 (by rw[h,s])
  ·omega
 rcases dr.1 f with f|f
 ·exact key a (p.2 a f).1 (p.2 a f).2
 ·have d:a=x:=by simpa using f
  subst d;exact key a C (y.mono λb e=>⟨by omega,λd=>by have:=B b d;omega⟩)
theorem Iy(O:r<w.heap.size)(y:CT i.2=true)(B:LI n r s f w b e (ae a L c) wr)(p:zo (s.extract b e)=true)(k:Rd r s (dK s e) (eI s e) w2)(g:(wr.drewN m).grownBy w2 (some r)):lY (n+2) s r (i::f) (w.alloc (.cells #[ab 0,ab 0,af ⟨#[]⟩,ae none 0 0] 31)) w2 (.agg #[ab 4,ab 0,af ⟨#[]⟩,ae a L c]) true/\ Bx w.heap.size (ab 0) (ab 0) (af ⟨#[]⟩) (ae none 0 0) w2/\Bx (w.heap.size+1) (ab 4) (ab 0) (af ⟨#[]⟩) (ae a L c) w2:=by
 obtain⟨l,q,K,j,u,C,v,x,D,M,E⟩:=B;have Q:=u.size;have H:=x.lt;have o:wr.grownBy w2 (some r):=b9 (eS wr m _) g;obtain⟨I,J,ev,G,F⟩:=(C.kept o (by omega)).tup;injection ev with d h A;subst d h A;refine⟨⟨b9 u o,dK s e,eI s e,jV s e,k,At.next j.2.1,λ_=>⟨⟨_,rfl,?_,F,G.mono λP N=>by simp;omega⟩,?_⟩,by simp⟩,v.block (o.block _ v.lt (by simp;omega)),x.block (o.block _ H (by simp;omega))⟩
 ·cases q with
  | nil=>simp[zo,j.nil]at p
  | cons t q=>
   obtain⟨d,h,_⟩:=j.cons;subst d h;exact⟨i,f,rfl,aj ⟨y,rfl,_,D,p⟩⟩
 ·intro z;cases q with
  | nil=>simp[zo,j.nil]at p
  | cons t q=>
   obtain⟨d,h,_⟩:=j.cons;subst d h;simp only[CS,y,cY];rw[E z,Ef _ _ _ _ p]
theorem lY.box(a:r<w.heap.size)(g:lY n s r f (w.alloc o) w1 v ok)(v0 v1 v2 v3:av):lY n s r f w ((((w1.setCell ⟨w.heap.size,0,none⟩ v0).setCell ⟨w.heap.size,1,none⟩ v1).setCell ⟨w.heap.size,2,none⟩ v2).setCell ⟨w.heap.size,3,none⟩ v3) v ok:=by
 obtain⟨h,b,e,q,i,j,k,l⟩:=g;refine⟨mF (mF (mF (mF (b9 (cX _ _ _) h) (ao _) _ _) (ao _) _ _) (ao _) _ _) (ao _) _ _,b,e,q,(((i.far a _ _).far a _ _).far a _ _).far a _ _,j,λm=>?_,l⟩;obtain⟨⟨t,u,x,y,d⟩,z⟩:=k m;have c:∀b,(w.alloc o).heap.size<=b->((((w1.setCell ⟨w.heap.size,0,none⟩ v0).setCell ⟨w.heap.size,1,none⟩ v1).setCell ⟨w.heap.size,2,none⟩ v2).setCell ⟨w.heap.size,3,none⟩ v3).heap[b]?=w1.heap[b]? :=λb c=>by
  have A:w.heap.size<b:=by simp at c;omega
  rw[fi _ _ _ _ (by simp;omega),fi _ _ _ _ (by simp;omega),fi _ _ _ _ (by simp;omega),fi _ _ _ _ (by simp;omega)]
 refine⟨⟨t,u,x,(In.off c d y).mono (by simp[World.setCell]),d.mono λB p=>by simp at p;omega⟩,z⟩
theorem lY.alloc{n r:Nat}{s:ap}{a:List fL}{w w1:ag}{v:av}{ok:Bool}(f:lY n s r a w w1 v ok)(o:Obj):lY n s r a w (w1.alloc o) v ok:=by
 obtain⟨g,b,e,p,h,i,j,k⟩:=f;refine⟨fT g o,b,e,p,h.alloc o,i,λm=>?_,k⟩;obtain⟨⟨q,t,u,c,d⟩,x⟩:=j m;exact⟨⟨q,t,u,(In.off (λb l=>fP w1 o l.2) (In.offB d c) c).mono (by simp),d⟩,x⟩
theorem At.no(c:At s b e f)(d:zo (s.extract b e)=false):∀t a,f=t::a->zo t.2=false:=by
 intro t a e;subst e;rw[c.cons.1];exact d
variable{d:List fL}
theorem yw{l:List (Tm (n+1))}(u:r<w.heap.size)(a:IZ n r s f w b e v wr l d)(g:(wr.drewN m).grownBy w1 (some r)):Bx w.heap.size (ab 0) (ab 0) (af ⟨#[]⟩) (ae none 0 0) w1/\Bx (w.heap.size+1) (ab 4) (ab 0) (af ⟨#[]⟩) v w1/\w.heap.size+1<w1.heap.size:=by
 obtain⟨i,j,k,o,c,h,p,q,t⟩:=a;have a:=h.block (g.block _ h.lt (by simp;omega));exact⟨c.block (g.block _ c.lt (by simp;omega)),a,a.lt⟩
theorem Iz{B:av}{l:List (Tm (n+1))}(t:CT i.2=true)(j:IZ n r s f w b e v wr l d)(q:zo (s.extract b e)=false)(R:lY (n+1) s r d (wr.drewN m) w1 B false)(u:av):lY (n+2) s r (i::f) (w.alloc (.cells #[ab 0,ab 0,af ⟨#[]⟩,ae none 0 0] 31)) w1 u false:=by
 obtain⟨C,k,o,D,E,F,G,H,p⟩:=j;obtain⟨h,c,g,A,x,y,_,z⟩:=R;refine⟨b9 o (b9 (eS wr m _) h),c,g,A,x,y,by simp,λ_ a=>?_⟩;simp only[CS,t,cY];rw[p a,Ce _ _ _ (k.no q)];exact z rfl (a+1)
theorem Fm{n:Nat}:(l:List (Tm n))->(a r:List fL)->EK (Is n) l a r->l.length+r.length<=a.length
 | [],a,r,h=>by have e:a=r:=h;subst e;simp
 | x::l,a,r,h=>by
  obtain⟨m,b,c⟩:=h;have d:=Fm l m r c;have f:=uc n x a m b;have g:0<(aC n x).length:=by
   cases n with
   | zero=>exact b.elim
   | succ n=>simp[aC]
  simp only[br];omega
theorem M8{l:List (Tm (n+1))}(F:r<w.heap.size)(q:IZ n r s f w b e (ae a L c) wr l d)(g:(wr.drewN m).grownBy w1 (some r))(E:f.length<=2048):l.length=L/\L<=2048/\∀h i,((w1.alloc h).alloc i).ownsRow (w.heap.size+2) 31 4 (ae a L c) L (cH (l.map (gu (n+1)))):=by
 obtain⟨x,y,z,o,A,B,t,C,D⟩:=q;have p:wr.grownBy w1 (some r):=b9 (eS wr m _) g;obtain⟨u,v,ev,_⟩:=o.tup;injection ev with _ j _;have:=Fm l f d t;have k:=(o.kept p (by omega)).1;rw[<-j]at k;exact⟨j.symm,by omega,λh i=>(k.alloc h).alloc i⟩
theorem IA{l:List (Tm (n+1))}(am:r<w.heap.size)(E:IZ n r s f w b e (ae a L c) wr l d)(ai:zo (s.extract b e)=false){k:Int}{t:ap}(R:lY (n+1) s r d (wr.drewN m) w1 (.agg #[ab k,ab u,af t,ae z j y]) true){P Q:Obj}{g o:Nat}(ah:l.length=L)(J:h.ownsRow (w.heap.size+2) 31 4 (ae (some ⟨g,0,none⟩) (L+1) o) (L+1) (cH (l.map (gu (n+1)))++ [ab k,ab u,af t,ae z j y]))(A:((w1.alloc P).alloc Q).grownBy h (Value.slice a L c).ownBlock)(aj:(Value.slice a L c).ownBlock=some g\/g=w1.heap.size+2):(Bx (w.heap.size+1) (ab 4) (ab 0) (af ⟨#[]⟩) (ae a L c) h/\ ∃q v,LI n r s f w q v (ae (some ⟨g,0,none⟩) (L+1) o) (h.setCell ⟨w.heap.size+1,3,none⟩ (ae (some ⟨g,0,none⟩) (L+1) o))/\Pf r s (h.setCell ⟨w.heap.size+1,3,none⟩ (ae (some ⟨g,0,none⟩) (L+1) o))<Pf r s wr):=by
 subst ah;obtain⟨au,av,aH⟩:=yw am E R.1;obtain⟨X,F,Y,G,aD,Z,aa,aE,ad⟩:=E;obtain⟨W,q,v,T,ao,N,aq,_⟩:=R;have D:wr.grownBy w1 (some r):=b9 (eS wr m _) W;obtain⟨⟨p,x,U,ax,ay⟩,az⟩:=aq rfl;have I:∀b,(Value.slice a l.length c).ownBlock=some b->w.heap.size+2<=b:=λb e=>(G.1.lt b e).1;have ak:vA (gu (n+1) p)=[ab k,ab u,af t,ae z j y]:=by
  have V:dw (n+1) p=.agg (vA (gu (n+1) p)).toArray:=rfl;rw[V]at x;injection x with x;exact Array.toList_inj.2 x
 rw[<-ak]at J;have M:=G.snoc D (by omega) ax ay (by have:=Z.lt;simp;omega) (w1:=(w1.alloc P).alloc Q) (fT (fT (eS w1 0 _) _) _) J A (by simpa using aj);have al:∀i,i<w.heap.size+2->some i≠(Value.slice a l.length c).ownBlock:=λi K e=>by have:=I i e.symm;omega
 have B:∀i,i<w.heap.size+2->h.heap[i]?=w1.heap[i]? :=λi K=>(A.block i (by simp;omega) (al i K)).trans ((fP _ _ (by simp;omega)).trans (fP _ _ (by omega)));have S:=av.block (B (w.heap.size+1) (by omega));have ar:Rd r s q v h:=ao.block (B r (by omega));have aB:h.heap.size=(h.setCell ⟨w.heap.size+1,3,none⟩ (ae (some ⟨g,0,none⟩) (l.length+1) o)).heap.size:=by simp[World.setCell]
 have O:=ar.far (g:=w.heap.size+1) (by omega) 3 (ae (some ⟨g,0,none⟩) (l.length+1) o);have aF:=uc (n+1) p d T U;have aG:0<(aC (n+1) p).length:=by simp[aC]
 refine⟨S,q,v,⟨l++ [p],T,O,N,?_,?_,?_,S.set3 _,aa.snoc U,by omega,λC=>?_⟩,?_⟩
 ·refine mF (GW (fT (fT (b9 Y D) _) _) A λb H=>?_) (by simp) _ _;have:=I b H;simp;omega
 ·refine⟨ownsRow_setCell_below (by simpa using M.1) (by simp) _,λaA an=>?_⟩;obtain⟨y1,y2⟩:=M.2 aA an;refine⟨?_,y2⟩;rw[<-aB];exact In.off (λb H=>fi _ _ _ _ (by simp;omega)) y2 y1
 ·exact(au.block (B w.heap.size (by omega))).block (fi _ _ _ _ (by simp))
 ·rw[ad C,Ce _ _ _ (F.no ai)];exact az (C+1)
 ·rw[Kf O N,Kf X F];omega
theorem Gx(w:ag)(o:Obj)(v0 v1 v2 v3:av)(e:TypeId):∀(j:Nat)(u:av),[v0,v1,v2,v3][j]?=some u->((w.alloc o).alloc (.cells #[v0,v1,v2,v3] e)).cell? ((⟨w.heap.size+1,0,none⟩:Addr).add j)=some u:=by
 intro j u a;rw[fu];rw[World.cell?_alloc_at _ _ _ _ (by simp)];simpa using a
theorem JL(k u:Int)(t:ap)(a:aw)(l c:Nat):∀v∈[Value.int .i64 k,ab u,af t,ae a l c],v.oneCell'=true:=by
 intro v b;simp at b;rcases b with rfl|rfl|rfl|rfl<;>rfl
theorem EC(n:Nat)(ih:Nq n)(r:Nat)(s:ap)(b e:Nat)(I:fL)(y:List fL)(w:ag)(G:Rd r s b e w)(R:At s b e (I::y))(E:s.size<=2048)(V:y.length<=n)(W:CT I.2=true):am 108 #[aH r] w λg w'=>LG (n+2) s r (I::y) w w' g:=by
 have q:=G.lt;obtain⟨aF,U,Y,Z,aa⟩:=bW gw;have B:=au (⟨U,Y,Z,aa⟩:_/\_/\_/\_);clear U Y Z aa;have d:=au (⟨G,R,E,V,W⟩:_/\_/\_/\_/\_);have al:=au ih;clear G R V W ih;go_enter func108,ntmps108;go_wp2_with (go_at_call 68;refine(rH r s b e _ ((d.1.alloc _).alloc _) d.2.1.2.1 E).mono ?_;rintro g aj ⟨rfl,m⟩);go_loopw [] (λwr=>∃(b e:Nat)(D:aw)(u c:Nat),Hid (LI n r s y w b e (ae D u c) wr)/\True) (λwr=>Pf r s wr)
 case atStart=>exact⟨_,_,_,_,_,IB d.1 d.2.1 m.1 m.2,trivial⟩
 case round=>
  obtain⟨f,h,D,u,c,Q,_⟩:=hrel;clear m;obtain⟨l,J,i⟩:=Q.out;replace i:=au i;obtain⟨j,ad⟩:∃j,s.extract f h=j:=⟨_,rfl⟩;have C:=au ad;clear ad;have a:Hid (Rd r s f h wr/\At s f h J/\J.length<=n/\y.length<=2048):=by
   obtain⟨o,p,H,aQ,aR,aS,aT,aB,aU⟩:=i.out;refine⟨o,p,aD aB d.2.2.2.1,?_⟩;have:=lV s (s.size-e) e (ao _);rw[<-d.out.2.1.cons.2.1]at this;omega
  cases hc:(j.toList==[41])
  ·have aV:(j.toList=[41])=False:=by simpa using hc
   have aW:(j.toList !=[41])=true:=by simpa using hc
   have P:Hid (zo (s.extract f h)=false):=by rw[C.out];exact hc
   go_wp2_with (first
    | (go_at_call 70;refine(pj r s f h j wr a.1 a.2.1.1 a.2.1.2.1 C).mono ?_;rintro g aj ⟨rfl,x,rfl⟩)
    | (go_at_call 69;refine(al r s f h J (wr.drewN x) (a.1.drew x) a.2.1 E a.2.2.1).mono ?_;rintro g F ⟨k,aM,t,an,aL,ar,ok,rfl,A⟩;obtain⟨ah,ai,aX⟩:=yw q i A.1;have aC:w.heap.size<F.heap.size:=(by omega);obtain⟨⟨K,L,M,N⟩,av,ax,ay,aA⟩:=ah.cells;obtain⟨⟨y0,y1,y2,aN⟩,aG,aI,aJ,aK⟩:=ai.cells;clear ah ai;cases ok)
    | (at_builtin;have z:=au (M8 q i A.1 a.2.2.2);refine wpList_append_lies _ rfl _ _ 29 rfl (w.heap.size+2) 31 aF _ 4 56 underlying29 B.1 B.2.1 B.2.2.1 B.2.2.2 rfl (by decide) _ u _ rfl (z.2.2 _ _) ⟨F.heap.size+1,0,none⟩ 1 1 [ab k,ab aM,af t,ae an aL ar] rfl rfl (Gx _ _ _ _ _ _ _) (JL _ _ _ _ _ _) (by decide) (by have:=z.2.1;unfold maxLen;omega) (by have:=z.2.1;omega) (by simp;omega) (F.heap.size+2) (by simp) ?_;intro aP aO a2 X T S aE;have O:=au (IA q i P A z.1 X T S);obtain⟨⟨a3,a4,a5,a6⟩,aY,aZ,a0,a1⟩:=O.out.1.cells;clear X T S aE))
   ·exact az (v:=.tuple #[.agg #[ab 0,ab 0,af ⟨#[]⟩,ae none 0 0],.bool false]) (by simp[results,results108,go_sem,K,L,M,N,aC]) rfl ⟨0,0,⟨#[]⟩,none,0,0,false,rfl,(lY.box q (Iz d.2.2.2.2 i P A _) _ _ _ _).alloc _⟩
   ·obtain⟨aq,g,o,p⟩:=O.2;go_roundw
    case rel=>exact⟨aq,g,_,_,_,o,trivial⟩
    case measure=>exact p
  ·go_wp2_with (first
     | (go_at_call 70;refine(pj r s f h j wr a.1 a.2.1.1 a.2.1.2.1 C).mono ?_;rintro g aj ⟨rfl,x,rfl⟩)
     | (go_at_call 68;refine(rH r s f h (wr.drewN x) (a.1.drew x) a.2.1.2.1 E).mono ?_;rintro g F ⟨rfl,m⟩;obtain⟨o,p,H⟩:=Iy q d.2.2.2.2 Q (by rw[C.out];exact hc) m.1 m.2;obtain⟨⟨K,L,M,N⟩,av,ax,ay,aA⟩:=p.cells;obtain⟨⟨y0,y1,y2,aN⟩,aG,aI,aJ,aK⟩:=H.cells;have ak:=au (lY.box q o);clear o p H))
   exact az (v:=.tuple #[.agg #[ab 4,ab 0,af ⟨#[]⟩,ae D u c],.bool true]) (by simp[results,results108,go_sem,K,L,M,N]) rfl ⟨4,0,⟨#[]⟩,D,u,c,true,rfl,ak _ _ _ _⟩
theorem J5(a:x.toList=[]):fJ x=false:=by
 rw[cE]at a;have b:x.size=0:=by
  have:x.data.toList.length=x.size:=by simp
  rw[a]at this;exact this.symm
 simp[fJ,cE,eZ,a,b]
theorem lY.undrew(a:lY n s r f (w.drewN m) w1 v ok):lY n s r f w w1 v ok:=by
 obtain⟨b,c⟩:=a;exact⟨b9 (eS w m _) b,c⟩
theorem J6(a:At s b e f)(d:s.extract b e=x)(z:s.size<=2048)(h:CT x=false){k:Int}{t:ap}(c:fJ x=true)(q:(k,u,t)=lw x)(A:t.size<=x.size)(m:dC k)(p:dC u)(l:ak w w1)(v:Rd r s (dK s e) (eI s e) w2)(g:(w1.alloc o).grownBy w2 (some r)):lY (n+1) s r f w w2 (.agg #[ab k,ab u,af t,ae none 0 0]) true:=by
 have B:x.size<=2048:=by rw[<-d];simp;have:=a.2.1;omega
 refine⟨b9 (fT (ov (gI w _) l) o) g,dK s e,eI s e,jV s e,v,At.next a.2.1,λ_=>?_,by simp⟩;cases f with
 | nil=>
  have:=a.nil;rw[d]at this;rw[J5 this]at c;exact absurd c (by simp)
 | cons C f=>
  obtain⟨i,j,_⟩:=a.cons;subst i j;rw[d];refine⟨⟨((k,u,t),(none,0),[]),rfl,⟨_,_,rfl,ai ⟨h,c,q,rfl,rfl⟩⟩,⟨⟨m,p,by unfold maxLen;simp only;omega,aL _,aL _⟩,ai rfl⟩,ai rfl⟩,λy=>?_⟩;simp only[CS,h,c];simp
theorem My(c:At s b e f)(k:s.extract b e=x)(j:CT x=false)(i:fJ x=false)(a:Rd r s b e w)(d:ak w w1)(v:av):lY (n+1) s r f w w1 v false:=by
 refine⟨ov (gI w _) d,b,e,f,a.block (d.block r a.lt),c,by simp,λ_ l=>?_⟩;cases f with
 | nil=>rfl
 | cons m f=>
  obtain⟨g,h,_⟩:=c.cons;subst g h;simp only[CS,k,j,i];simp[Ky]
theorem FX(a:Below (w.drewN m).heap.size (w.drewN m) w1):ak w w1:=⟨a.os,a.tape,a.output,a.size,a.block⟩
theorem uD(a:r<w.heap.size)(g:(w.alloc (.cells #[v0,v1,v2,v3] 31)).grownBy w2 (some r)):Bx w.heap.size v0 v1 v2 v3 w2:=
 (Bx.new w v0 v1 v2 v3).block (g.block _ (by simp) (by simp;omega))
theorem yr(n:Nat)(r:Nat)(s:ap)(b e:Nat)(p:List fL)(w:ag)(l:Rd r s b e w)(D:At s b e p)(E:s.size<=2048)(ih:∀w':ag,Rd r s b e w'->CT (s.extract b e)=true->am 108 #[aH r] w' λd W=>LG (n+1) s r p w' W d):am 69 #[aH r] w λd w'=>LG (n+1) s r p w w' d:=by
 have h:=l.lt;have a:=au (⟨l,D⟩:_/\_);have O:=au ih;clear l D ih;obtain⟨c,m⟩:∃c,s.extract b e=c:=⟨_,rfl⟩;have g:=au m;have V:c.size<=2048:=by rw[<-m];simp;have:=a.2.2.1;omega
 clear m;cases hc:(c.toList==[40])
 ·have ad:(c.toList=[40])=False:=by simpa using hc
  have ah:(c.toList !=[40])=true:=by simpa using hc
  go_enter func69,ntmps69
  go_wp2_with (first
   | (go_at_call 70;refine(pj r s b e c _ (a.1.alloc _) a.2.1 a.2.2.1 g).mono ?_;rintro d L ⟨rfl,o,rfl⟩)
   | (go_at_call 70;refine(pj r s b e c _ ((a.1.alloc _).drew o) a.2.1 a.2.2.1 g).mono ?_;rintro d L ⟨rfl,an,rfl⟩)
   | (go_at_call 109;refine(Hl c _ V).mono ?_;rintro d q ⟨⟨k,f,t,ok,rfl,A⟩,HB⟩;replace HB:=FX HB;obtain⟨⟨u,x,y,z⟩,P,Q,R,S⟩:=yO HB;have T:w.heap.size<q.heap.size:=(by have:=HB.size;simp at this;omega);have U:r<q.heap.size:=(by omega);replace HB:=au HB;cases ok)
   | (go_at_call 68;refine(rH r s b e _ ((((a.1.alloc _).block (HB.block r (by simp;omega)))).alloc _) a.2.2.1 E).mono ?_;rintro d aw ⟨rfl,i⟩;have N:=au (b9 (fT (ov (gI _ _) HB) _) i.2);obtain⟨⟨X,Y,Z,aa⟩,ao,aq,ar,av⟩:=(uD h N).cells;obtain⟨⟨y0,y1,y2,ax⟩,ai,aj,ak,al⟩:=(uD U i.2).cells;obtain⟨G,H,I,J,K⟩:=A.out;have M:=au (lY.box h (J6 (n:=n) a.2 g E hc G.symm (H (by trivial)) I J K HB i.1 i.2));clear G H I J K))
  ·exact az (v:=.tuple #[.agg #[ab k,ab f,af t,ae none 0 0],.bool false]) (by simp[results,results69,go_sem,u,x,y,z,T]) rfl ⟨k,f,t,none,0,0,false,rfl,(lY.box h (My a.2 g hc A.1.symm (a.1.alloc _) HB _) _ _ _ _).alloc _⟩
  ·exact az (v:=.tuple #[.agg #[ab k,ab f,af t,ae none 0 0],.bool true]) (by simp[results,results69,go_sem,X,Y,Z,aa]) rfl ⟨k,f,t,none,0,0,true,rfl,M _ _ _ _⟩
 ·go_enter func69,ntmps69
  go_wp2_with (first
   | (go_at_call 70;refine(pj r s b e c _ (a.1.alloc _) a.2.1 a.2.2.1 g).mono ?_;rintro d L ⟨rfl,o,rfl⟩)
   | (go_at_call 108;refine(O _ ((a.1.alloc _).drew o) (by rw[g.out];exact hc)).mono ?_;rintro d q ⟨k,f,t,B,F,C,ok,rfl,j⟩;replace j:=au j.undrew;obtain⟨⟨u,x,y,z⟩,P,Q,R,S⟩:=(uD h j.1).cells))
  exact az (v:=.tuple #[.agg #[ab k,ab f,af t,ae B F C],.bool ok]) (by simp[results,results69,go_sem,u,x,y,z]) rfl ⟨k,f,t,B,F,C,ok,rfl,lY.box h j _ _ _ _⟩
theorem Ho(n:Nat):Nq n:=by
 induction n with
 | zero=>
  intro g h b d c k j a f l;refine yr 0 g h b d c k j a f λm _ e=>?_;have i:c=[]:=bJ (by omega);subst i;simp[CT,a.nil]at e
 | succ n ih=>
  intro g h b d c k j a f l;refine yr (n+1) g h b d c k j a f λm o e=>?_;cases c with
  | nil=>simp[CT,a.nil]at e
  | cons t c=>
   have i:=a.cons.1;refine EC n ih g h b d t c m o a f (by simp at l;omega) ?_;rw[i];exact e
def oJ:av:=.agg #[ab 0,ab 0,af ⟨#[]⟩,ae none 0 0]
def PK(s:ap)(w w':ag)(v:av)(pos b:Int):Prop:=
 (2048<s.size/\v=oJ/\pos=0/\b=2)\/(∃c:Nat,s.size<=2048/\CS s.size (jV s 0) 0=some c/\v=oJ/\pos=c/\b=3)\/
  (s.size<=2048/\CS s.size (jV s 0) 0=none/\∃(n:Nat)(a:Tm n),Is n a (jV s 0) []/\In w'.heap.size w' n a/\cr (λd=>w.heap.size<=d) n a/\pos=0/\b=bE n a/\((bE n a≠0/\v=oJ)\/(bE n a=0/\v=dw n a)))
def PJ(s:ap)(w w':ag)(e:Ending):Prop:=
 ∃(k d:Int)(t:ap)(a:aw)(l c:Nat)(pos b:Int),e=.returned (.tuple #[.agg #[ab k,ab d,af t,ae a l c],ab pos,ab b])/\
  Hid (PK s w w' (.agg #[ab k,ab d,af t,ae a l c]) pos b/\ak w w')
theorem vS{q:Nat}(a:b≠q)(v0 v1 v2 v3:av):((((w.setCell ⟨q,0,none⟩ v0).setCell ⟨q,1,none⟩ v1).setCell ⟨q,2,none⟩ v2).setCell ⟨q,3,none⟩ v3).heap[b]?=w.heap[b]? :=by
 rw[fi _ _ _ _ (by simpa using a),fi _ _ _ _ (by simpa using a),fi _ _ _ _ (by simpa using a),fi _ _ _ _ (by simpa using a)]
theorem yf{q:Nat}(v0 v1 v2 v3:av):((((w.setCell ⟨q,0,none⟩ v0).setCell ⟨q,1,none⟩ v1).setCell ⟨q,2,none⟩ v2).setCell ⟨q,3,none⟩ v3).heap.size=w.heap.size:=by simp[World.setCell]
theorem Hd(g:((w.alloc (.cells #[ab 0,ab 0,af ⟨#[]⟩,ae none 0 0] 31)).alloc (.cells #[af s,ab 0,ab 0] 146)).grownBy w2 (some (w.heap.size+1)))(a:w2.grownBy h (some (w.heap.size+1))):Bx w.heap.size (ab 0) (ab 0) (af ⟨#[]⟩) (ae none 0 0) h/\w.heap.size+1<h.heap.size/\ak w h/\w.heap.size+2<=w2.heap.size:=by
 have b:=b9 g a;have d:=g.size;have f:=a.size;simp at d;refine⟨((Bx.new w _ _ _ _).block (fP _ _ (by simp))).block (b.block _ (by simp;omega) (by simp)),by omega,?_,by omega⟩;exact(((aq _ _).alloc (ao _) _).alloc (by simp) _).grown b (by simp;omega) (λe c=>by simp at c;omega)
theorem In.drewN{B:Nat}{w:ag}{n:Nat}{x:Tm n}(m:Nat){P:aR}(k:cr P n x)(a:In B w n x):In B (w.drewN m) n x:=In.off (w:=w) (w':=w.drewN m) (λ_ _=>rfl) k a
theorem Ks(A:s.extract b e=x)(z:(x.toList==[])=true)(D:s.size<=2048)(r:At s b e f)(E:w.heap.size+2<=w2.heap.size)(l:(∃x:Tm 2049,dw 2049 x=v/\Is 2049 x (jV s 0) f/\In h.heap.size h 2049 x/\cr (λq=>w2.heap.size<=q) 2049 x)/\∀d,CS s.size (jV s 0) d=j0 s.size f d)(o:Obj)(m:Nat):∃y:Tm 2049,v=dw 2049 y/\Is 2049 y (jV s 0) []/\In ((h.alloc o).drewN m).heap.size ((h.alloc o).drewN m) 2049 y/\cr (λq=>w.heap.size+2<=q) 2049 y/\(aC 2049 y).length<=2097152/\CS s.size (jV s 0) 0=none:=by
 obtain⟨⟨y,n,g,i,a⟩,p⟩:=l;have j:f=[]:=by
  cases f with
  | nil=>rfl
  | cons t f=>
   have k:=r.cons.2.2;rw[A]at k;have c:x.toList=[]:=by simpa using z
   rw[cE]at c;have:x.data.toList.length=x.size:=by simp
   rw[c]at this;simp at this;omega
 subst j;have B:=uc 2049 y (jV s 0) [] g;have c:=lV s s.size 0 (by omega);refine⟨y,n.symm,g,In.drewN m a ((In.off (λb u=>fP h o u.2) (In.offB a i) i).mono (by simp)),a.mono λq C=>by omega,by simp at B;omega,p 0⟩
theorem Kq{a:ag}(c:Bx w.heap.size (ab 0) (ab 0) (af ⟨#[]⟩) (ae none 0 0) h)(b:Below ((h.alloc (.cells #[v0,v1,v2,v3] 31)).drewN m).heap.size ((h.alloc (.cells #[v0,v1,v2,v3] 31)).drewN m) a):Bx w.heap.size (ab 0) (ab 0) (af ⟨#[]⟩) (ae none 0 0) a/\Bx h.heap.size v0 v1 v2 v3 a:=by
 have d:=c.lt;exact⟨(c.block (fP _ _ d)).block (b.block _ (by simp;omega)),(Bx.new h v0 v1 v2 v3).block (b.block _ (by simp))⟩
theorem Kr(g:s.extract b e=x)(c:(x.toList==[])=false)(a:At s b e f)(d:CS s.size (jV s 0) 0=j0 s.size f 0):CS s.size (jV s 0) 0=some b:=by
 rw[d,<-a.pos];cases f with
 | nil=>rw[<-g]at c;simp[a.nil]at c
 | cons t f=>rfl
theorem Kp{w4:ag}{y:Tm n}(a:In w4.heap.size w4 n y)(k:cr (λq=>w.heap.size+2<=q) n y)(b:ak w4 h)(v0 v1 v2 v3:av):In ((((h.setCell ⟨w.heap.size,0,none⟩ v0).setCell ⟨w.heap.size,1,none⟩ v1).setCell ⟨w.heap.size,2,none⟩ v2).setCell ⟨w.heap.size,3,none⟩ v3).heap.size ((((h.setCell ⟨w.heap.size,0,none⟩ v0).setCell ⟨w.heap.size,1,none⟩ v1).setCell ⟨w.heap.size,2,none⟩ v2).setCell ⟨w.heap.size,3,none⟩ v3) n y:=by
 rw[yf];exact In.off (λq c=>vS (by omega) _ _ _ _) k ((a.below b).mono b.size)
theorem qm(a:ak w w1)(v0 v1 v2 v3:av):ak w ((((w1.setCell ⟨w.heap.size,0,none⟩ v0).setCell ⟨w.heap.size,1,none⟩ v1).setCell ⟨w.heap.size,2,none⟩ v2).setCell ⟨w.heap.size,3,none⟩ v3):=
 ⟨a.os,a.tape,a.output,by rw[yf];exact a.size,λk b=>(vS (by omega) _ _ _ _).trans (a.block k b)⟩
theorem lg{B:Nat}(a:Below B w w1)(m:Nat):Below B w (w1.drewN m):=⟨a.os,a.tape,a.output,a.size,a.block⟩
theorem mn(a:ak w w1)(o:Obj):ak w (w1.alloc o):=a.alloc a.size o
theorem He(s:ap)(w:ag)(S:s.size<=maxLen):am 39 #[af s] w λe w'=>PJ s w w' e:=by
 unfold maxLen at S;by_cases D:2048<s.size
 ·have Q:(2048:Int)<s.size:=by omega
  go_enter func39,ntmps39;go_wp2_with fail;exact az (v:=.tuple #[oJ,ab 0,ab 2]) (by simp[results,results39,go_sem,oJ]) rfl ⟨0,0,⟨#[]⟩,none,0,0,0,2,rfl,ai ⟨D,rfl,rfl,rfl⟩,by go_grown⟩
 ·have Q:(s.size:Int)<=2048:=by omega
  have i:s.size<=2048:=by omega
  clear D;have P:Hid (Rd (w.heap.size+1) s 0 0 ((w.alloc (.cells #[ab 0,ab 0,af ⟨#[]⟩,ae none 0 0] 31)).alloc (.cells #[af s,ab 0,ab 0] 146))):=by
   have:=aF (w.alloc (.cells #[ab 0,ab 0,af ⟨#[]⟩,ae none 0 0] 31)) (.cells #[af s,ab 0,ab 0] 146);simpa [Hid,Rd]using this
  go_enter func39,ntmps39
  go_wp2_with (first
   | (go_at_call 68;refine(rH (w.heap.size+1) s 0 0 _ P (aL _) i).mono ?_;rintro o U ⟨rfl,B⟩)
   | (go_at_call 69;refine(Ho 2048 (w.heap.size+1) s _ _ (jV s 0) U B.1 (At.next (aL _)) i (aD (lV s s.size 0 (by omega)) (by omega))).mono ?_;rintro o V ⟨k,A,t,y,l,c,ok,rfl,C⟩;obtain⟨q,aw,G,H⟩:=Hd B.2 C.1;obtain⟨⟨K,L,M,N⟩,ad,ah,ak,al⟩:=q.cells;have E:w.heap.size<V.heap.size:=(by omega);obtain⟨_,d,o,aG,b⟩:=C;replace b:=au b;obtain⟨⟨W,X,Y⟩,ax,ay⟩:=b.out.1.cells;have HB:=au (⟨G,H⟩:_/\_);replace q:=au q;clear G H;obtain⟨r,F⟩:∃r,s.extract d o=r:=⟨_,rfl⟩;have x:=au F;clear F;cases ok)
   | (go_at_call 70;refine(pj (w.heap.size+1) s d o r _ (b.1.alloc _) b.2.1.1 b.2.1.2.1 x).mono ?_;rintro Z aH ⟨rfl,m,rfl⟩;cases hc:(r.toList==[]))
   | (go_at_call 53;obtain⟨u,p,a⟩:=Ks x hc i b.2.1 HB.2 (b.2.2.1 (by trivial)) _ m;replace a:=au a;refine(show Calls _ _ #[.agg #[ab k,ab A,af t,ae y l c]] _ _ from p▸dQ 2049 u _ _ a.2.1 (ao _) a.2.2.2.1).mono ?_;rintro aa aI ⟨rfl,h⟩;obtain⟨I,J⟩:=Kq q h;obtain⟨⟨y0,y1,y2,O⟩,an,aq,ar,av⟩:=I.cells;obtain⟨⟨aJ,aK,aM,aN⟩,aA,aB,aC,aE⟩:=J.cells;have n:=au h;clear I J h;replace p:=au p;obtain⟨j,g⟩:∃j,bE 2049 u=j:=⟨_,rfl⟩;rw[g];replace g:=au g;by_cases z:j=0))
  ·go_region;go_wp2_with fail;have f:=HB.1;exact az (v:=.tuple #[oJ,ab d,ab 3]) (by simp[results,results39,go_sem,oJ,E,K,L,M,N]) rfl ⟨0,0,⟨#[]⟩,none,0,0,d,3,rfl,aj (ai ⟨d,i,by rw[<-b.out.2.1.pos];exact b.2.2.2 (by trivial) 0,rfl,rfl,rfl⟩),by go_grown⟩
  ·go_region;go_wp2_with fail;have f:=HB.1;exact az (v:=.tuple #[oJ,ab d,ab 3]) (by simp[results,results39,go_sem,oJ,E,K,L,M,N]) rfl ⟨0,0,⟨#[]⟩,none,0,0,d,3,rfl,aj (ai ⟨d,i,Kr x hc b.2.1 ((b.2.2.1 (by trivial)).2 0),rfl,rfl,rfl⟩),qm (lg (mn f _) _) _ _ _ _⟩
  ·have f:=HB.1;have h:=n.out;exact az (v:=.tuple #[.agg #[ab k,ab A,af t,ae y l c],ab 0,ab 0]) (by simp[results,results39,go_sem,y0,y1,y2,O]) rfl ⟨k,A,t,y,l,c,0,0,rfl,aj (aj ⟨i,a.2.2.2.2,2049,u,a.1,Kp a.2.1 a.2.2.1 n _ _ _ _,a.2.2.1.mono (λT R=>by omega),rfl,(g.trans z).symm,aj ⟨g.trans z,p⟩⟩),qm ((lg (mn f _) m).trans (h.mono (lg (mn f _) m).size)) _ _ _ _⟩
  ·have f:=HB.1;have h:=n.out;exact az (v:=.tuple #[oJ,ab 0,ab j]) (by simp[results,results39,go_sem,oJ,y0,y1,y2,O]) rfl ⟨0,0,⟨#[]⟩,none,0,0,0,j,rfl,aj (aj ⟨i,a.2.2.2.2,2049,u,a.1,Kp a.2.1 a.2.2.1 n _ _ _ _,a.2.2.1.mono (λT R=>by omega),rfl,g.symm,ai ⟨by rw[g.out];exact z,rfl⟩⟩),qm ((lg (mn f _) m).trans (h.mono (lg (mn f _) m).size)) _ _ _ _⟩
def Oj{a:Type}(f:a->List fL->Option (List fL)):List a->List fL->Option (List fL)
 | [],ts=>some ts
 | x::l,ts=>(f x ts).bind (Oj f l)
def PW:(n:Nat)->Tm n->List fL->Option (List fL)
 | 0,_,_=>none
 | _+1,_,[]=>none
 | n+1,x,t::ts=>if CT t.2=true then if x.1=(4,0,⟨#[]⟩)then (Oj (PW n) x.2.2 ts).bind λr=>match r with
    | []=>none
    | c::r=>if zo c.2=true then some r else none else none
  else if fJ t.2=true/\x.1=lw t.2/\x.2.2.length=0 then some ts else none
theorem Fj{b:Type}{f:b->List fL->Option (List fL)}{g:b->List fL->List fL->Prop}(c:∀x a r,f x a=some r->g x a r):(l:List b)->∀{a r:List fL},Oj f l a=some r->EK g l a r
 | [],a,r,e=>by
  have e:some a=some r:=e;exact aA e
 | x::l,a,r,e=>by
  obtain⟨m,d,h⟩:=bC.1 e;exact⟨m,c x a m d,Fj c l h⟩
theorem vf:(n:Nat)->(x:Tm n)->(e r:List fL)->PW n x e=some r->Is n x e r
 | 0,_,_,_,h=>by cases h
 | _+1,_,[],_,h=>by cases h
 | n+1,x,t::e,r,h=>by
  unfold PW at h;refine⟨t,e,rfl,?_⟩;by_cases d:CT t.2=true
  ·rw[if_pos d]at h;by_cases g:x.1=(4,0,⟨#[]⟩)
   ·rw[if_pos g]at h;obtain⟨m,i,a⟩:=bC.1 h;cases m with
    | nil=>cases a
    | cons c m=>
     simp only at a;by_cases f:zo c.2=true
     ·rw[if_pos f]at a;obtain rfl:=aA a;exact aj ⟨d,g,c,Fj (vf n) x.2.2 i,f⟩
     ·rw[if_neg f]at a;cases a
   ·rw[if_neg g]at h;cases h
  ·rw[if_neg d]at h;by_cases b:fJ t.2=true/\x.1=lw t.2/\x.2.2.length=0
   ·rw[if_pos b]at h;exact ai ⟨by simpa using d,b.1,b.2.1,bJ b.2.2,(aA h).symm⟩
   ·rw[if_neg b]at h;cases h
def oK(s:ap)(n:Nat)(y:Tm n):Prop:=s.size<=2048/\CS s.size (jV s 0) 0=none/\Is n y (jV s 0) []
theorem BS{y:Tm n}(i:oK s n y)(u:bE n y=0)(w:ag):am 39 #[af s] w λe w'=>∃(m:Nat)(x:Tm (m+1)),e=.returned (.tuple #[.agg #[ab x.1.1,ab x.1.2.1,af x.1.2.2,ae x.2.1.1 x.2.2.length x.2.1.2],ab 0,ab 0])/\Hid (aB (m+1) x n y=true/\In w'.heap.size w' (m+1) x/\cr (λq=>w.heap.size<=q) (m+1) x/\ak w w'):=by
 obtain⟨j,o,p⟩:=i;refine(He s w (aD j (by unfold maxLen;omega))).mono ?_;rintro e w' ⟨k,E,t,B,l,c,pos,C,rfl,h⟩;obtain⟨z,r⟩:=h;rcases z with⟨a,_⟩|⟨D,_,a,_⟩|⟨_,_,m,x,A,f,v,rfl,rfl,b⟩
 ·omega
 ·rw[o]at a;cases a
 ·have g:=(Is.one m n x y _ _ _ A p).1;have d:bE m x=0:=by
   rw[Hv m n x y g];exact u
  rcases b with⟨a,_⟩|⟨_,b⟩
  ·exact absurd d a
  ·cases m with
   | zero=>exact f.elim
   | succ m=>
    rw[d,b];exact⟨m,x,rfl,g,f,v,r⟩
def Ld:ap:=⟨#[40,99,111,100,101,32,40,98,101,104,32,99,111,117,110,116,32,40,111,110,32,36,48,32,40,117,112,32,36,49,41,32,40,41,32,40,97,100,100,32,36,48,32,36,49,41,41,32,40,111,110,32,36,48,32,40,97,115,107,32,36,49,41,32,40,40,115,101,110,100,32,36,49,32,40,104,97,118,101,32,36,48,41,41,41,32,36,48,41,32,40,111,110,32,95,32,102,111,114,107,32,40,40,115,112,97,119,110,32,99,111,117,110,116,32,48,32,36,48,41,32,40,108,105,110,107,32,36,48,41,32,40,115,101,110,100,32,36,48,32,40,117,112,32,55,41,41,41,32,49,41,32,40,111,110,32,95,32,115,116,111,112,32,40,40,115,116,111,112,41,41,32,48,41,32,40,111,110,32,95,32,98,97,100,32,40,41,32,40,97,100,100,32,97,32,97,41,41,41,41]⟩
def P3:ap:=⟨#[40,117,112,32,51,41]⟩
def OH:ap:=⟨#[102,111,114,107]⟩
def Pn:ap:=⟨#[98,97,100]⟩
theorem M9:oK Ld 7 (cd 1 fR):=⟨by decide,by kernel_rfl,vf _ _ _ _ (by kernel_rfl)⟩
theorem Po:oK P3 13 vz:=⟨by decide,by kernel_rfl,vf _ _ _ _ (by kernel_rfl)⟩
theorem Na:oK OH 13 (bq tE 12):=⟨by decide,by kernel_rfl,vf _ _ _ _ (by kernel_rfl)⟩
theorem OI:oK Pn 13 (bq CF 12):=⟨by decide,by kernel_rfl,vf _ _ _ _ (by kernel_rfl)⟩
theorem qK:bE 7 (cd 1 fR)=0/\bE 13 vz=0/\bE 13 (bq tE 12)=0/\bE 13 (bq CF 12)=0:=⟨by kernel_rfl,by kernel_rfl,by kernel_rfl,by kernel_rfl⟩
end Go.Proofs.YtmmahddlcldmiaaGreat
