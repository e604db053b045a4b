/- What is proved here: term.formed and what it calls: whether a term that lies in memory, and each term in it, is as its Kind asks: the plain function formedB; no memory that was there is turned. No condition but that the term lies in memory. -/
import Derived.Test.YtckamaoibonjcaaGreatG03
import Derived.Handy
namespace Go.Proofs.YtckamaoibonjcaaGreat
open Go.RowKit
set_option maxHeartbeats 1000000
set_option maxRecDepth 100000
theorem rZ(s:ByteArray)(w:World)(l:s.size<=9223372036854775807):ah 96 #[.string s] w λe w'=>e=.returned (.bool (fL s.data.toList))/\w'=w:=by
 go_enter Tryz.func96,Tryz.ntmps96;go_wp2_with fail
 go_loop [3] (λb=>∃k:Nat,k<=s.size/\b=.int .i64 k/\Hid (fL (s.data.toList.take k)=true)) (λb=>s.size-(intOf b).toNat)
 case atStart=>exact⟨0,aB _,rfl,by simp[Hid,fL]⟩
 case round=>
  obtain⟨k,j,rfl,f⟩:=hrel;by_cases i:k<s.size
  ·have c:=aj (uj s k i);have d:Hid (xR s[k]=false->false=fL s.data.toList):=λg=>by
    have a:fL s.data.toList=(fL (s.data.toList.take (k+1)) && fL (s.data.toList.drop (k+1))):=by
     conv=>lhs;rw[<-jf (k+1) s.data.toList]
     simp only[fL,jV]
    rw[a,c.out,g];simp
   by_cases h:97<=(s[k].toNat:Int)
   ·by_cases a:(s[k].toNat:Int)<=122
    ·go_wp2_with fail
     go_round
     case rel=>exact⟨k+1,by omega,by go_num,by simp only[Hid];rw[c.out,f.out];simp[xR,h,a]⟩
     case measure=>simp[intOf];omega
    ·go_wp2_with fail
     go_ret
     exact⟨bG (d.out (by simp[xR,a])),rfl⟩
   ·go_wp2_with fail
    go_ret
    exact⟨bG (d.out (by simp[xR];omega)),rfl⟩
  ·go_wp2_with fail
   go_ret
   exact⟨bG (by rw[<-f.out,bw (by simp;omega)]),rfl⟩
theorem ii(s:ByteArray)(w:World)(d:s.size<=9223372036854775807):ah 64 #[.string s] w λe w'=>e=.returned (.bool (dC s))/\w'=w:=by
 by_cases b:(1:Int)<=s.size
 ·by_cases c:(s.size:Int)<=8
  ·have a:Hid (dC s=fL s.data.toList):=by simp only[Hid,dC,pT];simp[b,c]
   go_enter Tryz.func64,Tryz.ntmps64;go_wp2_with (go_at_call 96;refine(rZ _ _ d).mono ?_;rintro e w' ⟨rfl,rfl⟩)
   all_goals go_ret
   all_goals exact⟨bG (by rw[a.out]),rfl⟩
  ·have a:Hid (dC s=false):=by simp only[Hid,dC,pT];simp[c]
   go_enter Tryz.func64,Tryz.ntmps64;go_wp2_with fail
   go_ret
   exact⟨bG (by rw[a.out]),rfl⟩
 ·have a:Hid (dC s=false):=by simp only[Hid,dC,pT];simp[b]
  go_enter Tryz.func64,Tryz.ntmps64;go_wp2_with fail
  go_ret
  exact⟨bG (by rw[a.out]),rfl⟩
def bu(n:Nat)(x:Tm (n+1)):Nd:=(x.1,(x.2.1.1,x.2.2.length,x.2.1.2))
def bQ:(n:Nat)->Tm n->Bool
 | 0,_=>false
 | n+1,x=>cm (bu n x) && (!(x.1.1==4) || x.2.2.all λy=>bQ n y)
def LB(n:Nat):Prop:=∀(x:Tm n)(B:Nat)(w:World),In B w n x->B<=w.heap.size->
 ah 79 #[dd n x] w λe w'=>e=.returned (.bool (bQ n x))/\ag w w'
theorem jF(w:World)(k b:Int)(s:ByteArray)(a:Option Addr)(l c:Nat)(d:k=1\/k=3\/k=5\/k=6):ah 79 #[.agg #[.int .i64 k,.int .i64 b,.string s,.slice a l c]] w λe w'=>e=.returned (.bool (cm ((k,b,s),(a,l,c))))/\ag w w':=by
 rcases d with rfl|rfl|rfl|rfl
 all_goals
  go_enter Tryz.func79,Tryz.ntmps79;go_wp2
  all_goals go_ret
  all_goals refine⟨bG ?_,by go_grown⟩
  all_goals go_light
  all_goals first|(simp[cm,pT, *];done)|(simp[cm,pT, *];omega)
theorem zU(w:World)(b:Int)(s:ByteArray)(a:Option Addr)(l c:Nat)(d:s.size<=9223372036854775807):ah 79 #[.agg #[.int .i64 2,.int .i64 b,.string s,.slice a l c]] w λe w'=>e=.returned (.bool (cm ((2,b,s),(a,l,c))))/\ag w w':=by
 go_enter Tryz.func79,Tryz.ntmps79;go_wp2_with (go_at_call 64;refine(ii _ _ d).mono ?_;rintro e w' ⟨rfl,rfl⟩)
 all_goals go_ret
 all_goals refine⟨bG ?_,by go_grown⟩
 all_goals go_light
 all_goals first|(simp[cm, *];done)|(simp[cm, *];omega)
theorem zV(w:World)(k j:Int)(s:ByteArray)(a:Option Addr)(l c:Nat)(b:¬k=1)(d:¬k=2)(f:¬k=3)(g:¬k=4)(h:¬k=5)(i:¬k=6):ah 79 #[.agg #[.int .i64 k,.int .i64 j,.string s,.slice a l c]] w λe w'=>e=.returned (.bool (cm ((k,j,s),(a,l,c))))/\ag w w':=by
 have m:cm ((k,j,s),(a,l,c))=false:=by simp[cm,b,d,f,g,h,i]
 rw[m];have n:(k==1)=false:=by simpa using b
 have o:(k==2)=false:=by simpa using d
 have p:(k==3)=false:=by simpa using f
 have q:(k==4)=false:=by simpa using g
 have r:(k==5)=false:=by simpa using h
 have t:(k==6)=false:=by simpa using i
 clear b d f g h i m;go_enter Tryz.func79,Tryz.ntmps79;go_wp2_with fail
 go_ret
 exact⟨rfl,by go_grown⟩
theorem zg(n:Nat)(ih:LB n)(p:List (Tm n))(len:Nat)(z:Hid (p.length=len))(a:Option Addr)(pc B:Nat)(w:World)(g:Hid (p=[]\/∃b o,a=some ⟨b,o,none⟩/\b<B/\∀(i:Nat)(y:Tm n),p[i]?=some y->dy w b (o+i*4) n y/\In B w n y))(K:len<=9223372036854775807)(r:B<=w.heap.size):ah 111 #[.slice a len pc] w λe w'=>e=.returned (.bool (decide ((len:Int)<=8) && p.all λy=>bQ n y))/\ag w w':=by
 by_cases G:(8:Int)<len
 ·have j:decide ((len:Int)<=8)=false:=by simp;omega
  rw[j];go_enter Tryz.func111,Tryz.ntmps111;go_wp2_with fail
  go_ret
  exact⟨rfl,ak _ _⟩
 have j:decide ((len:Int)<=8)=true:=by simp;omega
 rw[j,dX];clear j;go_enter Tryz.func111,Tryz.ntmps111;go_wp2_with fail;go_loopw [10] (λi wr=>∃k:Nat,k<=len/\i=.int .i64 k/\ag w wr/\Hid (((p.drop k).all λy=>bQ n y)=p.all λy=>bQ n y)) (λi _=>len-(intOf i).toNat)
 case atStart=>exact⟨0,by omega,rfl,ak _ _,rfl⟩
 case round=>
  obtain⟨k,H,rfl,d,s⟩:=hrel;by_cases D:k<len
  ·obtain⟨c,l⟩:∃c,p[k]?=some c:=⟨p[k]'(by rw[z.out];exact D),aD _⟩;have t:Hid (((p.drop k).all λy=>bQ n y)=(bQ n c && (p.drop (k+1)).all λy=>bQ n y)):=by
    obtain⟨h,C⟩:=aL.1 l;rw[eP h,C];rfl
   rcases g.out with g|⟨L,po,rfl,E,g⟩
   ·subst g;simp at l
   obtain⟨m,q⟩:=g k c l;replace m:=m.below (d.mono r) E;replace q:=q.below (d.mono r);clear g l;cases n with
   | zero=>exact m.elim
   | succ n=>
   obtain⟨M,N,O,P⟩:=m;have u:B<=wr.heap.size:=aw r d.size
   have A:Hid (∀f,ag wr f->ah 79 #[.agg #[.int .i64 c.1.1,.int .i64 c.1.2.1,.string c.1.2.2,.slice c.2.1.1 c.2.2.length c.2.1.2]] f λe w'=>e=.returned (.bool (bQ (n+1) c))/\ag f w'):=
    λf h=>ih c B f (q.below (h.mono u)) (aw u h.size)
   clear ih q;generalize c.2.2.length=Q at*;generalize bQ (n+1) c=F at*;have I:(0:Int)<=(k:Int):=by omega
   have J:(k:Int)<(len:Int):=by omega
   go_wp2_with fail;refine(A.out _ ((ak _ _).alloc (ai _) _)).mono ?_;rintro e f ⟨rfl,v⟩;have x:ag w f:=(d.trans (((ak _ _).alloc (ai _) _).mono d.size)).trans (v.mono (by have:=d.size;simp;omega));clear v;cases F with
   | true=>
    go_wp2_with fail;go_roundw
    case rel=>exact⟨k+1,by omega,by go_num,x,by rw[<-s.out,t.out];rfl⟩
    case measure=>simp[intOf];omega
   | false=>
    go_wp2_with fail
    go_ret
    exact⟨bG (by rw[<-s.out,t.out];rfl),x⟩
  ·go_wp2_with fail
   go_ret
   refine⟨bG ?_,d⟩;rw[<-s.out,ja (by rw[z.out];omega)];rfl
theorem Cc(w:World)(b:Int)(s:ByteArray)(a:Option Addr)(l c:Nat)(r:Bool)(H:Hid (∀w1:World,ag w w1->ah 111 #[.slice a l c] w1 λe w'=>e=.returned (.bool (decide ((l:Int)<=8) && r))/\ag w1 w')):ah 79 #[.agg #[.int .i64 4,.int .i64 b,.string s,.slice a l c]] w λe w'=>e=.returned (.bool (cm ((4,b,s),(a,l,c)) && r))/\ag w w':=by
 have f:cm ((4,b,s),(a,l,c))=(s.toList.isEmpty && b==0 && decide ((l:Int)<=8)):=by simp[cm]
 rw[f];generalize decide ((l:Int)<=8)=h at*;clear f;cases h1:b==0
 ·go_enter Tryz.func79,Tryz.ntmps79;go_wp2_with fail
  go_ret
  exact⟨bG (by simp),by go_grown⟩
 cases h2:s.toList.isEmpty
 ·go_enter Tryz.func79,Tryz.ntmps79;go_wp2_with fail
  go_ret
  exact⟨bG (by simp),by go_grown⟩
 go_enter Tryz.func79,Tryz.ntmps79;go_wp2_with fail;refine(H.out _ ((ak _ _).alloc (ai _) _)).mono ?_;rintro e w1 ⟨rfl,d⟩;have g:ag w w1:=((ak _ _).alloc (ai _) _).trans (d.mono (by simp));clear d;go_wp2_with fail
 all_goals go_ret
 all_goals exact⟨bG (by simp),g⟩
theorem Cb(n:Nat):LB n:=by
 induction n with
 | zero=>intro B q c l;exact l.elim
 | succ n ih=>
  intro B q c l i;obtain⟨⟨k,e,d⟩,⟨a,pc⟩,p⟩:=B;obtain⟨⟨_,_,t,D,s⟩,f⟩:=l;simp only at t D s f;unfold maxLen at s t;show ah 79 #[.agg #[.int .i64 k,.int .i64 e,.string d,.slice a p.length pc]] c λh E=>h=.returned (.bool (cm ((k,e,d),(a,p.length,pc)) && (!(k==4) || p.all λg=>bQ n g)))/\ag c E;by_cases m:k=4
  ·subst m;refine Cc c e d a p.length pc _ (λF j=>zg n ih p p.length rfl a pc q F ?_ (by omega) (aw i j.size));rcases f with f|⟨b,o,h,r,f⟩
   ·exact ae f
   ·exact af ⟨b,o,h,r,λv g u=>⟨(f v g u).1.below (j.mono i) r,(f v g u).2.below (j.mono i)⟩⟩
  ·have C:(!(k==4) || p.all λg=>bQ n g)=true:=by simp[m]
   rw[C,Bool.and_true];by_cases w:k=1
   ·exact jF c k e d a p.length pc (ae w)
   by_cases x:k=2
   ·subst x;exact zU c e d a p.length pc (by omega)
   by_cases y:k=3
   ·exact jF c k e d a p.length pc (af (ae y))
   by_cases z:k=5
   ·exact jF c k e d a p.length pc (af (af (ae z)))
   by_cases A:k=6
   ·exact jF c k e d a p.length pc (af (af (af A)))
   ·exact zV c k e d a p.length pc w x y m z A
end Go.Proofs.YtckamaoibonjcaaGreat
