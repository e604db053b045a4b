/- What is proved here: term.formed and what it calls: whether a term that lies in memory, and each term in it, is as its Kind asks: the plain function formedB; no memory that was there is turned. No condition but that the term lies in memory. -/
import Derived.Test.YtckamaoibonjcaaGreatG03
import Derived.Handy
namespace Go.Proofs.YtckamaoibonjcaaGreat
open Go.RowKit
set_option maxHeartbeats 1000000
set_option maxRecDepth 100000
theorem sk(s:ByteArray)(w:World)(l:s.size<=9223372036854775807):ah 96 #[.string s] w λe w'=>e=.returned (.bool (fR s.data.toList))/\w'=w:=by
 go_enter Tryz.func96,Tryz.ntmps96;go_wp2_with fail
 go_loop [3] (λb=>∃k:Nat,k<=s.size/\b=.int .i64 k/\Hid (fR (s.data.toList.take k)=true)) (λb=>s.size-(intOf b).toNat)
 case atStart=>exact⟨0,aB _,rfl,by simp[Hid,fR]⟩
 case round=>
  obtain⟨k,j,rfl,f⟩:=hrel;by_cases i:k<s.size
  ·have c:=aj (uu s k i);have d:Hid (yg s[k]=false->false=fR s.data.toList):=λg=>by
    have a:fR s.data.toList=(fR (s.data.toList.take (k+1)) && fR (s.data.toList.drop (k+1))):=by
     conv=>lhs;rw[<-jl (k+1) s.data.toList]
     simp only[fR,j0]
    rw[a,c.out,g];simp
   by_cases h:97<=(s[k].toNat:Int)
   ·by_cases a:(s[k].toNat:Int)<=122
    ·go_wp2_with fail
     go_round
     case rel=>exact⟨k+1,by omega,by go_num,by simp only[Hid];rw[c.out,f.out];simp[yg,h,a]⟩
     case measure=>simp[intOf];omega
    ·go_wp2_with fail
     go_ret
     exact⟨bH (d.out (by simp[yg,a])),rfl⟩
   ·go_wp2_with fail
    go_ret
    exact⟨bH (d.out (by simp[yg];omega)),rfl⟩
  ·go_wp2_with fail
   go_ret
   exact⟨bH (by rw[<-f.out,bw (by simp;omega)]),rfl⟩
theorem iq(s:ByteArray)(w:World)(d:s.size<=9223372036854775807):ah 64 #[.string s] w λe w'=>e=.returned (.bool (dC s))/\w'=w:=by
 by_cases b:(1:Int)<=s.size
 ·by_cases c:(s.size:Int)<=8
  ·have a:Hid (dC s=fR s.data.toList):=by simp only[Hid,dC,pZ];simp[b,c]
   go_enter Tryz.func64,Tryz.ntmps64;go_wp2_with (go_at_call 96;refine(sk _ _ d).mono ?_;rintro e w' ⟨rfl,rfl⟩)
   all_goals go_ret
   all_goals exact⟨bH (by rw[a.out]),rfl⟩
  ·have a:Hid (dC s=false):=by simp only[Hid,dC,pZ];simp[c]
   go_enter Tryz.func64,Tryz.ntmps64;go_wp2_with fail
   go_ret
   exact⟨bH (by rw[a.out]),rfl⟩
 ·have a:Hid (dC s=false):=by simp only[Hid,dC,pZ];simp[b]
  go_enter Tryz.func64,Tryz.ntmps64;go_wp2_with fail
  go_ret
  exact⟨bH (by rw[a.out]),rfl⟩
def bu(n:Nat)(x:Tm (n+1)):Nd:=(x.1,(x.2.1.1,x.2.2.length,x.2.1.2))
def bR:(n:Nat)->Tm n->Bool
 | 0,_=>false
 | n+1,x=>co (bu n x) && (!(x.1.1==4) || x.2.2.all λy=>bR n y)
def LS(n:Nat):Prop:=∀(x:Tm n)(B:Nat)(w:World),In B w n x->B<=w.heap.size->
 ah 79 #[df n x] w λe w'=>e=.returned (.bool (bR n x))/\ag w w'
theorem jK(w:World)(k b:Int)(s:ByteArray)(a:Option Addr)(l c:Nat)(d:k=1\/k=3\/k=5\/k=6):ah 79 #[.agg #[.int .i64 k,.int .i64 b,.string s,.slice a l c]] w λe w'=>e=.returned (.bool (co ((k,b,s),(a,l,c))))/\ag w w':=by
 rcases d with rfl|rfl|rfl|rfl
 all_goals
  go_enter Tryz.func79,Tryz.ntmps79;go_wp2
  all_goals go_ret
  all_goals refine⟨bH ?_,by go_grown⟩
  all_goals go_light
  all_goals first|(simp[co,pZ, *];done)|(simp[co,pZ, *];omega)
theorem Ag(w:World)(b:Int)(s:ByteArray)(a:Option Addr)(l c:Nat)(d:s.size<=9223372036854775807):ah 79 #[.agg #[.int .i64 2,.int .i64 b,.string s,.slice a l c]] w λe w'=>e=.returned (.bool (co ((2,b,s),(a,l,c))))/\ag w w':=by
 go_enter Tryz.func79,Tryz.ntmps79;go_wp2_with (go_at_call 64;refine(iq _ _ d).mono ?_;rintro e w' ⟨rfl,rfl⟩)
 all_goals go_ret
 all_goals refine⟨bH ?_,by go_grown⟩
 all_goals go_light
 all_goals first|(simp[co, *];done)|(simp[co, *];omega)
theorem Ah(w:World)(k j:Int)(s:ByteArray)(a:Option Addr)(l c:Nat)(b:¬k=1)(d:¬k=2)(f:¬k=3)(g:¬k=4)(h:¬k=5)(i:¬k=6):ah 79 #[.agg #[.int .i64 k,.int .i64 j,.string s,.slice a l c]] w λe w'=>e=.returned (.bool (co ((k,j,s),(a,l,c))))/\ag w w':=by
 have m:co ((k,j,s),(a,l,c))=false:=by simp[co,b,d,f,g,h,i]
 rw[m];have n:(k==1)=false:=by simpa using b
 have o:(k==2)=false:=by simpa using d
 have p:(k==3)=false:=by simpa using f
 have q:(k==4)=false:=by simpa using g
 have r:(k==5)=false:=by simpa using h
 have t:(k==6)=false:=by simpa using i
 clear b d f g h i m;go_enter Tryz.func79,Tryz.ntmps79;go_wp2_with fail
 go_ret
 exact⟨rfl,by go_grown⟩
theorem zu(n:Nat)(ih:LS n)(p:List (Tm n))(len:Nat)(z:Hid (p.length=len))(a:Option Addr)(pc B:Nat)(w:World)(g:Hid (p=[]\/∃b o,a=some ⟨b,o,none⟩/\b<B/\∀(i:Nat)(y:Tm n),p[i]?=some y->dA w b (o+i*4) n y/\In B w n y))(K:len<=9223372036854775807)(r:B<=w.heap.size):ah 111 #[.slice a len pc] w λe w'=>e=.returned (.bool (decide ((len:Int)<=8) && p.all λy=>bR n y))/\ag w w':=by
 by_cases G:(8:Int)<len
 ·have j:decide ((len:Int)<=8)=false:=by simp;omega
  rw[j];go_enter Tryz.func111,Tryz.ntmps111;go_wp2_with fail
  go_ret
  exact⟨rfl,ak _ _⟩
 have j:decide ((len:Int)<=8)=true:=by simp;omega
 rw[j,dY];clear j;go_enter Tryz.func111,Tryz.ntmps111;go_wp2_with fail;go_loopw [10] (λi wr=>∃k:Nat,k<=len/\i=.int .i64 k/\ag w wr/\Hid (((p.drop k).all λy=>bR n y)=p.all λy=>bR n y)) (λi _=>len-(intOf i).toNat)
 case atStart=>exact⟨0,by omega,rfl,ak _ _,rfl⟩
 case round=>
  obtain⟨k,H,rfl,d,s⟩:=hrel;by_cases D:k<len
  ·obtain⟨c,l⟩:∃c,p[k]?=some c:=⟨p[k]'(by rw[z.out];exact D),aD _⟩;have t:Hid (((p.drop k).all λy=>bR n y)=(bR n c && (p.drop (k+1)).all λy=>bR n y)):=by
    obtain⟨h,C⟩:=aL.1 l;rw[eR h,C];rfl
   rcases g.out with g|⟨L,po,rfl,E,g⟩
   ·subst g;simp at l
   obtain⟨m,q⟩:=g k c l;replace m:=m.below (d.mono r) E;replace q:=q.below (d.mono r);clear g l;cases n with
   | zero=>exact m.elim
   | succ n=>
   obtain⟨M,N,O,P⟩:=m;have u:B<=wr.heap.size:=av r d.size
   have A:Hid (∀f,ag wr f->ah 79 #[.agg #[.int .i64 c.1.1,.int .i64 c.1.2.1,.string c.1.2.2,.slice c.2.1.1 c.2.2.length c.2.1.2]] f λe w'=>e=.returned (.bool (bR (n+1) c))/\ag f w'):=
    λf h=>ih c B f (q.below (h.mono u)) (av u h.size)
   clear ih q;generalize c.2.2.length=Q at*;generalize bR (n+1) c=F at*;have I:(0:Int)<=(k:Int):=by omega
   have J:(k:Int)<(len:Int):=by omega
   go_wp2_with fail;refine(A.out _ ((ak _ _).alloc (ai _) _)).mono ?_;rintro e f ⟨rfl,v⟩;have x:ag w f:=(d.trans (((ak _ _).alloc (ai _) _).mono d.size)).trans (v.mono (by have:=d.size;simp;omega));clear v;cases F with
   | true=>
    go_wp2_with fail;go_roundw
    case rel=>exact⟨k+1,by omega,by go_num,x,by rw[<-s.out,t.out];rfl⟩
    case measure=>simp[intOf];omega
   | false=>
    go_wp2_with fail
    go_ret
    exact⟨bH (by rw[<-s.out,t.out];rfl),x⟩
  ·go_wp2_with fail
   go_ret
   refine⟨bH ?_,d⟩;rw[<-s.out,jf (by rw[z.out];omega)];rfl
theorem Cn(w:World)(b:Int)(s:ByteArray)(a:Option Addr)(l c:Nat)(r:Bool)(H:Hid (∀w1:World,ag w w1->ah 111 #[.slice a l c] w1 λe w'=>e=.returned (.bool (decide ((l:Int)<=8) && r))/\ag w1 w')):ah 79 #[.agg #[.int .i64 4,.int .i64 b,.string s,.slice a l c]] w λe w'=>e=.returned (.bool (co ((4,b,s),(a,l,c)) && r))/\ag w w':=by
 have f:co ((4,b,s),(a,l,c))=(s.toList.isEmpty && b==0 && decide ((l:Int)<=8)):=by simp[co]
 rw[f];generalize decide ((l:Int)<=8)=h at*;clear f;cases h1:b==0
 ·go_enter Tryz.func79,Tryz.ntmps79;go_wp2_with fail
  go_ret
  exact⟨bH (by simp),by go_grown⟩
 cases h2:s.toList.isEmpty
 ·go_enter Tryz.func79,Tryz.ntmps79;go_wp2_with fail
  go_ret
  exact⟨bH (by simp),by go_grown⟩
 go_enter Tryz.func79,Tryz.ntmps79;go_wp2_with fail;refine(H.out _ ((ak _ _).alloc (ai _) _)).mono ?_;rintro e w1 ⟨rfl,d⟩;have g:ag w w1:=((ak _ _).alloc (ai _) _).trans (d.mono (by simp));clear d;go_wp2_with fail
 all_goals go_ret
 all_goals exact⟨bH (by simp),g⟩
theorem Cm(n:Nat):LS n:=by
 induction n with
 | zero=>intro B q c l;exact l.elim
 | succ n ih=>
  intro B q c l i;obtain⟨⟨k,e,d⟩,⟨a,pc⟩,p⟩:=B;obtain⟨⟨_,_,t,D,s⟩,f⟩:=l;simp only at t D s f;unfold maxLen at s t;show ah 79 #[.agg #[.int .i64 k,.int .i64 e,.string d,.slice a p.length pc]] c λh E=>h=.returned (.bool (co ((k,e,d),(a,p.length,pc)) && (!(k==4) || p.all λg=>bR n g)))/\ag c E;by_cases m:k=4
  ·subst m;refine Cn c e d a p.length pc _ (λF j=>zu n ih p p.length rfl a pc q F ?_ (by omega) (av i j.size));rcases f with f|⟨b,o,h,r,f⟩
   ·exact ae f
   ·exact af ⟨b,o,h,r,λv g u=>⟨(f v g u).1.below (j.mono i) r,(f v g u).2.below (j.mono i)⟩⟩
  ·have C:(!(k==4) || p.all λg=>bR n g)=true:=by simp[m]
   rw[C,Bool.and_true];by_cases w:k=1
   ·exact jK c k e d a p.length pc (ae w)
   by_cases x:k=2
   ·subst x;exact Ag c e d a p.length pc (by omega)
   by_cases y:k=3
   ·exact jK c k e d a p.length pc (af (ae y))
   by_cases z:k=5
   ·exact jK c k e d a p.length pc (af (af (ae z)))
   by_cases A:k=6
   ·exact jK c k e d a p.length pc (af (af (af A)))
   ·exact Ah c k e d a p.length pc w x y m z A
end Go.Proofs.YtckamaoibonjcaaGreat
