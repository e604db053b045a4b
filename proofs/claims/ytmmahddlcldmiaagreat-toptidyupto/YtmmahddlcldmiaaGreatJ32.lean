/- Proved here: plain facts and contracts. No condition but what each names. -/
import Derived.Test.YtmmahddlcldmiaaGreatJ31
import Derived.BigRegion
namespace Go.Proofs.YtmmahddlcldmiaaGreat
open Go.RowKit Go.Proofs.Tryz
set_option maxHeartbeats 8000000
set_option maxRecDepth 100000
theorem qs{w w1 w2:World}{q:Option Nat}(a:w.grownBy w1 q)(c:w2.os=w1.os)(d:w2.tape=w1.tape)(e:w2.output=w1.output)(b:w2.heap=w1.heap):w.grownBy w2 q:=
 ⟨c.trans a.os,d.trans a.tape,e.trans a.output,by rw[b];exact a.size,λk f g=>by rw[b];exact a.block k f g⟩
theorem EY(c:UInt8)(w:World)(b:Bool)(a:zb c=b):ak 107 #[.int .u8 c.toNat] w λe w'=>e=.returned (.bool b)/\w'=w:=by
 rw[<-a];exact Jv c w
theorem rC(r:Nat)(s:ByteArray)(F g:Nat)(w:World)(e:Rd r s F g w)(J:g<=s.size)(V:s.size<=2048):ak 68 #[aC r] w λG w'=>G=.returned (.tuple #[])/\Hid (Rd r s (dF s g) (eD s g) w'/\w.grownBy w' (some r)):=by
 obtain⟨⟨B,v,x⟩,f1,f2⟩:=e.cells;have z:=ap (⟨e.set1 g,mB w r 1 (ab g)⟩:_/\_);clear e;go_enter func68,ntmps68;go_wp2_with fail;go_loopw [] (λwr=>∃k:Nat,k<=s.size/\Hid (Rd r s k g wr/\w.grownBy wr (some r)/\fQ N0 s k=dF s g)/\True) (λwr=>s.size-(intOf ((wr.cell? ⟨r,1,none⟩).getD undef)).toNat)
 case atStart=>exact⟨g,J,⟨z.1,z.2,rfl⟩,trivial⟩
 case round=>
  obtain⟨k,K,j,_⟩:=hrel;obtain⟨⟨B,v,x⟩,f1,f2⟩:=j.out.1.cells;by_cases h:∃e:k<s.size,s[k]=32
  ·obtain⟨b,H⟩:=h;have L:(k:Int)<s.size:=by omega
   have C:decide ((k:Int)<s.size)=true:=by simp;omega
   have u:=ap (xY (p:=N0) b (by simp[N0,H]));go_wp2_with fail
   go_quiet (fail)
   go_wp2_with fail;go_roundw
   case rel=>exact⟨k+1,by omega,⟨(j.1.drew nq).set1 (k+1),bV j.2.1 (bV (eN wr nq _) (mB _ _ _ _)),by rw[u.out];exact j.2.2⟩,trivial⟩
   case measure=>simp[go_sem,v,intOf];omega
  ·have i:Hid (dF s g=k):=by
     rw[<-j.out.2.2];by_cases b:k<s.size
     ·exact xZ (p:=N0) b (by simp[N0];exact λe=>h ⟨b,e⟩)
     ·exact Cd (p:=N0) b
   have I:((¬k<s.size)/\decide ((k:Int)<s.size)=false)\/((k:Int)<s.size/\decide ((k:Int)<s.size)=true/\∃e:k<s.size,((s[k].toNat:Int)==32)=false):=by
    by_cases b:k<s.size
    ·have S:=j8 (k:=32) (d:=32) rfl (λe=>h ⟨b,e⟩);exact ai ⟨by omega,by simp;omega,b,by simp;omega⟩
    ·exact ah ⟨b,by simp;omega⟩
   clear h;rcases I with⟨b,C⟩|⟨L,C,b,T⟩
   all_goals
    go_wp2_with fail
    go_quiet (fail)
    have A:=ap (show Rd r s k k ((wr.drewN nq).setCell ⟨r,2,none⟩ (ab k))/\w.grownBy ((wr.drewN nq).setCell ⟨r,2,none⟩ (ab k)) (some r)from⟨(j.1.drew nq).set2 k,bV j.2.1 (bV (eN wr nq _) (mB _ _ _ _))⟩);go_wp2_with fail;go_loopw [] (λq=>∃a:Nat,a<=s.size/\k<=a/\Hid (Rd r s k a q/\w.grownBy q (some r)/\fQ (λc=> !zb c) s a=fQ (λc=> !zb c) s k)/\True) (λq=>s.size-(intOf ((q.cell? ⟨r,2,none⟩).getD undef)).toNat)
    case atStart=>exact⟨k,K,am _,⟨A.1,A.2,rfl⟩,trivial⟩
    case round=>
     obtain⟨a,U,D,f,_⟩:=hrel;obtain⟨⟨B,v,x⟩,f1,f2⟩:=f.out.1.cells;by_cases h:∃e:a<s.size,zb s[a]=false
     ·obtain⟨n,o⟩:=h;have y:k<s.size:=Nat.lt_of_le_of_lt D n
      first|exact absurd y b|skip
      all_goals
       have R:(a:Int)<s.size:=by omega
       have E:decide ((a:Int)<s.size)=true:=by simp;omega
       have u:=ap (xY (p:=λc=> !zb c) n (by simp[o]));go_wp2_with fail
       go_quiet ((go_at_call 107;exact Calls.quiet_of_same (EY s[a] _ _ o)))
       go_wp2_with fail;go_roundw
       case rel=>exact⟨a+1,by omega,by omega,⟨(f.1.drew _).set2 (a+1),bV f.2.1 (bV (eN _ _ _) (mB _ _ _ _)),by rw[u.out];exact f.2.2⟩,trivial⟩
       case measure=>simp[go_sem,x,intOf];omega
     ·have t:Hid (fQ (λc=> !zb c) s k=a):=by
        rw[<-f.out.2.2];by_cases b:a<s.size
        ·exact xZ (p:=λc=> !zb c) b (by simp;cases e:zb s[a];exact absurd ⟨b,e⟩ h;rfl)
        ·exact Cd (p:=λc=> !zb c) b
      have Q:((¬a<s.size)/\decide ((a:Int)<s.size)=false)\/((a:Int)<s.size/\decide ((a:Int)<s.size)=true/\∃e:a<s.size,zb s[a]=true):=by
       by_cases b:a<s.size
       ·exact ai ⟨by omega,by simp;omega,b,by cases e:zb s[a];exact absurd ⟨b,e⟩ h;rfl⟩
       ·exact ah ⟨b,by simp;omega⟩
      clear h;rcases Q with⟨n,E⟩|⟨R,E,n,o⟩
      ·have m:Hid (eD s g=a):=by
         simp only[Hid,eD,i.out,t.out];rw[if_neg (by omega)]
       go_wp2_with fail
       go_quiet (fail)
       go_wp2_with fail;by_cases l:a=k
       ·first|exact absurd (show a<s.size by omega) n|skip
        all_goals
         subst l
         go_quiet (fail)
         go_wp2_with fail
         go_end0
         refine⟨rfl,?_,qs f.2.1 rfl rfl rfl rfl⟩;rw[i.out,m.out];exact f.1
       ·first|exact absurd (show a=k by omega) l|skip
        all_goals
         have M:((a:Int)==k)=false:=by simp;omega
         have N:(a==k)=false:=by simp;omega
         have O:decide (a=k)=false:=by simp;omega
         have P:decide ((a:Int)=k)=false:=by simp;omega
         clear l
         go_quiet (fail)
         go_wp2_with fail
         go_end0
         refine⟨rfl,?_,qs f.2.1 rfl rfl rfl rfl⟩;rw[i.out,m.out];exact f.1
      ·have y:k<s.size:=Nat.lt_of_le_of_lt D n
       first|exact absurd y b|skip
       all_goals
        go_wp2_with fail
        go_quiet ((go_at_call 107;exact Calls.quiet_of_same (EY s[a] _ _ o)))
        go_wp2_with fail;by_cases l:a=k
        ·have m:Hid (eD s g=a+1):=by
           simp only[Hid,eD,i.out,t.out];rw[if_pos ⟨l,by omega⟩];omega
         subst l
         go_quiet (fail)
         go_wp2_with fail
         go_end0
         refine⟨rfl,?_,bV f.2.1 (bV (eN _ _ _) (mB _ _ _ _))⟩;rw[i.out,m.out];exact Rd.set2 f.1 (a+1)
        ·have m:Hid (eD s g=a):=by
           simp only[Hid,eD,i.out,t.out];rw[if_neg (by omega)]
         have M:((a:Int)==k)=false:=by simp;omega
         have N:(a==k)=false:=by simp;omega
         have O:decide (a=k)=false:=by simp;omega
         have P:decide ((a:Int)=k)=false:=by simp;omega
         clear l
         go_quiet (fail)
         go_wp2_with fail
         go_end0
         refine⟨rfl,?_,qs f.2.1 rfl rfl rfl rfl⟩;rw[i.out,m.out];exact f.1
abbrev fG:Type:=Nat×ByteArray
def CO(x:ByteArray):Bool:=x.toList==[40]
def zi(x:ByteArray):Bool:=x.toList==[41]
theorem Mk{x:ByteArray}{c:UInt8}(a:(x.toList==[c])=true):x.data.toList=[c]/\x.size=1:=by
 rw[cu]at a;have b:x.data.toList=[c]:=by simpa using a
 refine⟨b,?_⟩;have:x.data.toList.length=x.size:=by simp
 rw[b]at this;simpa using this.symm
theorem vi{x:ByteArray}(a:zi x=true):fE x=false/\CO x=false:=by
 obtain⟨b,c⟩:=Mk a;simp[fE,CO,eU,cu,b,iK,uI,fZ,zn]
def EF{a:Type}(f:a->List fG->List fG->Prop):List a->List fG->List fG->Prop
 | [],ts,r=>ts=r
 | x::l,ts,r=>∃m,f x ts m/\EF f l m r
def Is:(n:Nat)->Tm n->List fG->List fG->Prop
 | 0,_,_,_=>False
 | n+1,x,ts,r=>∃t a,ts=t::a/\((CO t.2=false/\fE t.2=true/\x.1=lk t.2/\x.2.2=[]/\r=a)\/
    (CO t.2=true/\x.1=(4,0,⟨#[]⟩)/\∃c,EF (Is n) x.2.2 a (c::r)/\zi c.2=true))
theorem EF.snoc{b:Type}{f:b->List fG->List fG->Prop}{x:b}{r:List fG}:{l:List b}->{a m:List fG}->EF f l a m->f x m r->EF f (l++ [x]) a r
 | [],a,m,h,hx=>by
  have e:a=m:=h;subst e;exact⟨r,hx,rfl⟩
 | y::l,a,m,h,hx=>by
  obtain⟨q,c,d⟩:=h;exact⟨q,c,d.snoc hx⟩
theorem Is.head{n:Nat}{x:Tm n}{c r:List fG}(a:Is n x c r):∃t b,c=t::b/\zi t.2=false:=by
 cases n with
 | zero=>exact a.elim
 | succ n=>
  obtain⟨t,b,rfl,a⟩:=a;refine⟨t,b,rfl,?_⟩;cases hc:zi t.2
  ·rfl
  ·have:=vi hc;rcases a with a|a
   ·rw[this.1]at a;exact absurd a.2.1 (by simp)
   ·rw[this.2]at a;exact absurd a.1 (by simp)
theorem EF.one{n m:Nat}(ih:∀(x:Tm n)(y:Tm m)(d r f:List fG),Is n x d r->Is m y d f->ax n x m y=true/\r=f):(p:List (Tm n))->(q:List (Tm m))->(d:List fG)->(c i:fG)->(r f:List fG)->zi c.2=true->zi i.2=true->EF (Is n) p d (c::r)->EF (Is m) q d (i::f)->aB (λa b=>ax n a m b) p q=true/\r=f
 | [],[],d,c,i,r,f,hc,hc',h,h'=>by
  have j:d=c::r:=h;have g:d=i::f:=h';rw[j]at g;injection g with _ e;exact⟨rfl,e⟩
 | [],y::q,d,c,i,r,f,hc,hc',h,h'=>by
  have j:d=c::r:=h;obtain⟨A,k,_⟩:=h';obtain⟨t,C,g,l⟩:=k.head;rw[j]at g;injection g with e _;rw[<-e,hc]at l;exact absurd l (by simp)
 | x::p,[],d,c,i,r,f,hc,hc',h,h'=>by
  have j:d=i::f:=h';obtain⟨A,k,_⟩:=h;obtain⟨t,C,g,l⟩:=k.head;rw[j]at g;injection g with e _;rw[<-e,hc']at l;exact absurd l (by simp)
 | x::p,y::q,d,c,i,r,f,hc,hc',h,h'=>by
  obtain⟨o,k,v⟩:=h;obtain⟨B,w,z⟩:=h';obtain⟨j,g⟩:=ih x y d o B k w;subst g;obtain⟨s,u⟩:=EF.one ih p q o c i r f hc hc' v z;exact⟨by simp only[aB];rw[j,s];rfl,u⟩
theorem Is.one:(n:Nat)->(m:Nat)->(x:Tm n)->(y:Tm m)->(f r b:List fG)->Is n x f r->Is m y f b->ax n x m y=true/\r=b
 | 0,_,_,_,_,_,_,a,_=>a.elim
 | _+1,0,_,_,_,_,_,_,a=>a.elim
 | n+1,m+1,x,y,f,r,b,a,g=>by
  obtain⟨t,z,rfl,a⟩:=a;obtain⟨t2,A,e,g⟩:=g;injection e with h i;subst h i;rcases a with⟨o,_,l,j,v⟩|⟨o,l,c,j,s⟩
  ·rcases g with⟨_,_,p,k,w⟩|⟨d,_⟩
   ·refine⟨?_,v.trans w.symm⟩;simp only[ax,l,p,j,k,aB];simp
   ·rw[o]at d;exact absurd d (by simp)
  ·rcases g with⟨d,_⟩|⟨_,p,q,k,u⟩
   ·rw[o]at d;exact absurd d (by simp)
   ·obtain⟨h,i⟩:=EF.one (λx y f r b=>Is.one n m x y f r b) x.2.2 y.2.2 z c q r b s u j k;refine⟨?_,i⟩;simp only[ax,l,p,h];simp
theorem tY:(n:Nat)->(x:Tm n)->(a r:List fG)->Is n x a r->(ay n x).length+r.length<=a.length
 | 0,_,_,_,b=>b.elim
 | n+1,x,a,r,b=>by
  have key:∀(l:List (Tm n))(a r:List fG),EF (Is n) l a r->(l.flatMap λy=>ay n y).length+r.length<=a.length:=by
   intro l
   induction l with
   | nil=>intro a r b;have f:a=r:=b;subst f;simp
   | cons y l ih=>
    intro a r b;obtain⟨e,g,h⟩:=b;have:=tY n y a e g;have:=ih e r h;simp only[bF,bm];omega
  obtain⟨t,k,rfl,b⟩:=b;simp only[ay,bi];rcases b with⟨o,_,j,d,i⟩|⟨o,j,c,d,m⟩
  ·rw[d,i];simp;omega
  ·have:=key x.2.2 k (c::r) d;simp only[bi]at this;omega
def jV(L:Nat):List fG->Nat->Option Nat
 | [],0=>none
 | [],_+1=>some L
 | t::_,0=>some t.1
 | t::ts,d+1=>if CO t.2 then jV L ts (d+2)else if zi t.2 then jV L ts d else if fE t.2 then jV L ts (d+1)else some t.1
def CN(L:Nat):List fG->Nat->Option Nat
 | [],_=>some L
 | t::ts,d=>if CO t.2 then jV L ts (d+1)else if fE t.2 then jV L ts d else some t.1
def Kt(L:Nat):List fG->Nat
 | []=>L
 | t::_=>t.1
theorem B9(L:Nat)(a:List fG)(d:Nat)(b:∀t c,a=t::c->zi t.2=false):jV L a (d+1)=CN L a (d+1):=by
 cases a with
 | nil=>rfl
 | cons t a=>simp only[jV,CN];rw[b t a rfl];simp
theorem Ea(L:Nat)(t:fG)(b:List fG)(d:Nat)(a:zi t.2=true):jV L (t::b) (d+1)=jV L b d:=by
 simp only[jV];rw[(vi a).2,a];simp
theorem xU{c β:Type}(f:c->β->Bool):(p:List c)->(q:List β)->aB f p q=true->p.length=q.length
 | [],[],_=>rfl
 | [],_::_,h=>by simp[aB]at h
 | _::_,[],h=>by simp[aB]at h
 | a::p,b::q,h=>by
  simp only[aB,aG]at h;simp[xU f p q h.2]
theorem Mg{k b u f:Int}{s e:ByteArray}{l d c h:Nat}{a g:Option Addr}(i:k=b)(j:u=f)(m:s=e)(n:l=d):cE ((k,u,s),(a,l,c))=cE ((b,f,e),(g,d,h)):=by
 subst i j m n;rfl
theorem tp:(n m:Nat)->(x:Tm n)->(y:Tm m)->ax n x m y=true->bZ n x=bZ m y/\fD n x=fD m y/\sz n x=sz m y
 | 0,_,_,_,c=>by simp[ax]at c
 | _+1,0,_,_,c=>by simp[ax]at c
 | n+1,m+1,x,y,c=>by
  have key:∀(p:List (Tm n))(q:List (Tm m)),aB (λa b=>ax n a m b) p q=true->
    (p.all λy=>bZ n y)=(q.all λy=>bZ m y)/\(∀a,p.foldl (λm y=>max m (fD n y)) a=q.foldl (λk y=>max k (fD m y)) a)/\(p.map λy=>1+sz n y).sum=(q.map λy=>1+sz m y).sum:=by
   intro p
   induction p with
   | nil=>
    intro q c;cases q with
    | nil=>simp
    | cons b q=>simp[aB]at c
   | cons a p ih=>
    intro q c;cases q with
    | nil=>simp[aB]at c
    | cons b q=>
     simp only[aB,aG]at c;obtain⟨j,l,o⟩:=tp n m a b c.1;obtain⟨e,f,g⟩:=ih q c.2;refine⟨by simp only[ji,j,e],λv=>?_,by simp only[aN,bI,o,g]⟩;simp only[gw,l];exact f _
  simp only[ax,aG,cv]at c;obtain⟨⟨⟨d,r⟩,h⟩,i⟩:=c;obtain⟨e,f,g⟩:=key _ _ i;have t:=xU _ _ _ i;have u:x.1.2.2=y.1.2.2:=by
   rw[cu,cu]at h;exact ByteArray.ext (Array.toList_inj.1 h)
  refine⟨?_,?_,?_⟩
  ·have s:cE (bD n x)=cE (bD m y):=Mg d r u t;simp only[bZ,s,d,e]
  ·simp only[fD,d,f]
  ·simp only[sz,d,g]
theorem Hq(n m:Nat)(x:Tm n)(y:Tm m)(a:ax n x m y=true):bz n x=bz m y:=by
 obtain⟨b,c,d⟩:=tp n m x y a;rw[<-gn,<-gn];simp only[wS,b,c,d]
def rT:Nat->ByteArray->Nat->List fG
 | 0,_,_=> []
 | f+1,s,i=>if dF s i<s.size then (dF s i,s.extract (dF s i) (eD s i))::rT f s (eD s i)else []
def jQ(s:ByteArray)(i:Nat):List fG:=rT (s.size-i) s i
theorem nG(s:ByteArray):(f g i:Nat)->s.size-i<=f->s.size-i<=g->rT f s i=rT g s i
 | 0,0,_,_,_=>rfl
 | 0,g+1,i,h,_=>by
  have:=mN s i;simp only[rT];rw[if_neg (by omega)]
 | f+1,0,i,_,h=>by
  have:=mN s i;simp only[rT];rw[if_neg (by omega)]
 | f+1,g+1,i,h,h'=>by
  simp only[rT];by_cases a:dF s i<s.size
  ·rw[if_pos a,if_pos a];have b:=rW s i a;have c:=mN s i;rw[nG s f g (eD s i) (by omega) (by omega)]
  ·rw[if_neg a,if_neg a]
theorem yk(s:ByteArray)(i:Nat)(a:dF s i<s.size):jQ s i=(dF s i,s.extract (dF s i) (eD s i))::jQ s (eD s i):=by
 have b:=rW s i a;have c:=mN s i;unfold jQ;rw[nG s (s.size-i) (s.size-i+1) i (by omega) (by omega)];simp only[rT];rw[if_pos a,nG s (s.size-i) (s.size-eD s i) (eD s i) (by omega) (by omega)]
theorem vY(s:ByteArray)(i:Nat)(a:¬dF s i<s.size):jQ s i=[]:=by
 unfold jQ;rw[nG s (s.size-i) (s.size-i+1) i (by omega) (by omega)];simp only[rT];rw[if_neg a]
theorem lQ(s:ByteArray):(f i:Nat)->s.size-i<=f->(jQ s i).length<=s.size-i
 | 0,i,h=>by
  have:=mN s i;rw[vY s i (by omega)];simp
 | f+1,i,h=>by
  by_cases a:dF s i<s.size
  ·have b:=rW s i a;have c:=mN s i;rw[yk s i a];have:=lQ s f (eD s i) (by omega);simp only[bi];omega
  ·rw[vY s i a];simp
def At(s:ByteArray)(b e:Nat)(a:List fG):Prop:=
 b<=e/\e<=s.size/\((b=s.size/\a=[])\/(b<e/\a=(b,s.extract b e)::jQ s e))
theorem At.next{s:ByteArray}{i:Nat}(b:i<=s.size):At s (dF s i) (eD s i) (jQ s i):=by
 refine⟨CD s i,CE s i b,?_⟩;by_cases a:dF s i<s.size
 ·exact ai ⟨rW s i a,yk s i a⟩
 ·exact ah ⟨(IG s i b a).1,vY s i a⟩
theorem At.pos{s:ByteArray}{b e:Nat}{a:List fG}(c:At s b e a):Kt s.size a=b:=by
 rcases c.2.2 with⟨d,rfl⟩|⟨_,rfl⟩
 ·exact d.symm
 ·rfl
theorem At.nil{s:ByteArray}{b e:Nat}(a:At s b e []):(s.extract b e).toList=[]:=by
 rcases a.2.2 with⟨d,_⟩|⟨_,c⟩
 ·rw[cu];apply bE;have:=a.2.1;simp;omega
 ·exact absurd c (by simp)
theorem At.cons{s:ByteArray}{b e:Nat}{t:fG}{d:List fG}(c:At s b e (t::d)):t=(b,s.extract b e)/\d=jQ s e/\0<(s.extract b e).size:=by
 rcases c.2.2 with⟨_,a⟩|⟨h,a⟩
 ·exact absurd a (by simp)
 ·injection a with f g;refine⟨f,g,?_⟩;have:=c.2.1;simp;omega
-- Sign by sign:what a sign does to the words ahead.
theorem fO{w w1:World}{q:Option Nat}(a:w.grownBy w1 q)(o:Obj):w.grownBy (w1.alloc o) q:=
 ⟨a.os,a.tape,a.output,by have:=a.size;simp;omega,λk b c=>by
  exact(((ao w1.heap.size w1).alloc (am _) o).block k (aR b a.size)).trans (a.block k b c)⟩
theorem mA{w w1:World}{q:Option Nat}(a:w.grownBy w1 q){b:Nat}(e:w.heap.size<=b)(o:Nat)(v:Value):w.grownBy (w1.setCell ⟨b,o,none⟩ v) q:=
 ⟨a.os,a.tape,a.output,by simpa [World.setCell]using a.size,λk c d=>(eY w1 ⟨b,o,none⟩ v k (by simp;omega)).trans (a.block k c d)⟩
theorem GQ{w w1 w2:World}{q:Option Nat}(a:w.grownBy w1 q){g:Option Nat}(k:w1.grownBy w2 g)(f:∀b,g=some b->w.heap.size<=b):w.grownBy w2 q:=
 ⟨k.os.trans a.os,k.tape.trans a.tape,k.output.trans a.output,az a.size k.size,λc d h=>(k.block c (aR d a.size) (λe=>by have:=f c e.symm;omega)).trans (a.block c d h)⟩
theorem om{w w1 w2:World}{q:Option Nat}(a:w.grownBy w1 q)(k:aj w1 w2):w.grownBy w2 q:=
 ⟨k.os.trans a.os,k.tape.trans a.tape,k.output.trans a.output,az a.size k.size,λc b d=>(k.block c (aR b a.size)).trans (a.block c b d)⟩
theorem Rd.block{r:Nat}{s:ByteArray}{b e:Nat}{w w':World}(a:Rd r s b e w)(k:w'.heap[r]?=w.heap[r]?):Rd r s b e w':=k.trans a
theorem Rd.alloc{r:Nat}{s:ByteArray}{b e:Nat}{w:World}(a:Rd r s b e w)(o:Obj):Rd r s b e (w.alloc o):=
 a.block (((ao w.heap.size w).alloc (am _) o).block r a.lt)
theorem Rd.far{r:Nat}{s:ByteArray}{b e:Nat}{w:World}(a:Rd r s b e w){g:Nat}(c:r<g)(o:Nat)(v:Value):Rd r s b e (w.setCell ⟨g,o,none⟩ v):=
 a.block (eY w ⟨g,o,none⟩ v r (by simp;omega))
def ahead(s:ByteArray)(b e:Nat):List fG:=if b<s.size then (b,s.extract b e)::jQ s e else []
def Pa(r:Nat)(s:ByteArray)(w:World):Nat:=(ahead s (intOf ((w.cell? ⟨r,1,none⟩).getD undef)).toNat (intOf ((w.cell? ⟨r,2,none⟩).getD undef)).toNat).length
theorem Ka{r:Nat}{s:ByteArray}{b e:Nat}{w:World}{a:List fG}(f:Rd r s b e w)(k:At s b e a):Pa r s w=a.length:=by
 obtain⟨⟨h,c,d⟩,f1,f2⟩:=f.cells;simp only[Pa,c,d,Option.getD_some,intOf,Int.toNat_natCast,ahead];rcases k.2.2 with⟨g,rfl⟩|⟨g,rfl⟩
 ·rw[if_neg (by omega)]
 ·rw[if_pos (by have:=k.2.1;omega)]
def lT(n:Nat)(s:ByteArray)(r:Nat)(e:List fG)(w w':World)(v:Value)(ok:Bool):Prop:=
 w.grownBy w' (some r)/\∃b f c,Rd r s b f w'/\At s b f c/\
  (ok=true->(∃d:Tm n,dq n d=v/\Is n d e c/\In w'.heap.size w' n d/\ch (λg=>w.heap.size<=g) n d)/\∀a,CN s.size e a=jV s.size c a)/\
  (ok=false->∀a,CN s.size e a=some (Kt s.size c))
def LA(n:Nat)(s:ByteArray)(r:Nat)(d:List fG)(w w':World)(e:Ending):Prop:=
 ∃(k b:Int)(t:ByteArray)(a:Option Addr)(l c:Nat)(ok:Bool),e=.returned (.tuple #[.agg #[ab k,ab b,af t,ae a l c],.bool ok])/\
  Hid (lT n s r d w w' (.agg #[ab k,ab b,af t,ae a l c]) ok)
def Nj(n:Nat):Prop:=∀(r:Nat)(s:ByteArray)(b e:Nat)(a:List fG)(w:World),Rd r s b e w->At s b e a->s.size<=2048->a.length<=n->
 ak 69 #[aC r] w λc w'=>LA (n+1) s r a w w' c
theorem pd(r:Nat)(s:ByteArray)(b e:Nat)(x:ByteArray)(w:World)(c:Rd r s b e w)(d:b<=e)(f:e<=s.size)(g:s.extract b e=x):ak 70 #[aC r] w λa w'=>a=.returned (af x)/\∃n,w'=w.drewN n:=by
 subst g;exact Ll r s b e w c d f
def Bx(q:Nat)(v0 v1 v2 v3:Value)(w:World):Prop:=w.heap[q]?=some (.cells #[v0,v1,v2,v3] 31)
theorem Bx.cells{q:Nat}{v0 v1 v2 v3:Value}{w:World}(a:Bx q v0 v1 v2 v3 w):(w.cell? ⟨q,0,none⟩=some v0/\w.cell? ⟨q,1,none⟩=some v1/\w.cell? ⟨q,2,none⟩=some v2/\w.cell? ⟨q,3,none⟩=some v3)/\ (w.frozen? ⟨q,0,none⟩=false/\w.frozen? ⟨q,1,none⟩=false/\w.frozen? ⟨q,2,none⟩=false/\w.frozen? ⟨q,3,none⟩=false):=by
 unfold Bx at a;exact⟨⟨by simp[World.cell?,a],by simp[World.cell?,a],by simp[World.cell?,a],by simp[World.cell?,a]⟩,by simp[World.frozen?,a],by simp[World.frozen?,a],by simp[World.frozen?,a],by simp[World.frozen?,a]⟩
theorem Bx.block{q:Nat}{v0 v1 v2 v3:Value}{w w':World}(a:Bx q v0 v1 v2 v3 w)(k:w'.heap[q]?=w.heap[q]?):Bx q v0 v1 v2 v3 w':=k.trans a
theorem Bx.lt{q:Nat}{v0 v1 v2 v3:Value}{w:World}(a:Bx q v0 v1 v2 v3 w):q<w.heap.size:=(aF.1 a).1
theorem Bx.set3{q:Nat}{v0 v1 v2 v3:Value}{w:World}(a:Bx q v0 v1 v2 v3 w)(v:Value):Bx q v0 v1 v2 v (w.setCell ⟨q,3,none⟩ v):=by
 unfold Bx at*;simp[World.setCell,bJ,a]
theorem Bx.new(w:World)(v0 v1 v2 v3:Value):Bx w.heap.size v0 v1 v2 v3 (w.alloc (.cells #[v0,v1,v2,v3] 31)):=aA w _
def IU(n:Nat)(r:Nat)(s:ByteArray)(c:List fG)(w:World)(b e:Nat)(v:Value)(wr:World)(l:List (Tm (n+1)))(a:List fG):Prop:=
 Rd r s b e wr/\At s b e a/\(w.alloc (.cells #[ab 0,ab 0,af ⟨#[]⟩,ae none 0 0] 31)).grownBy wr (some r)/\qS (w.heap.size+2) (n+1) l v wr/\
  Bx w.heap.size (ab 0) (ab 0) (af ⟨#[]⟩) (ae none 0 0) wr/\Bx (w.heap.size+1) (ab 4) (ab 0) (af ⟨#[]⟩) v wr/\
  EF (Is (n+1)) l c a/\a.length<=c.length/\∀d,jV s.size c (d+1)=jV s.size a (d+1)
def LC(n:Nat)(r:Nat)(s:ByteArray)(c:List fG)(w:World)(b e:Nat)(v:Value)(wr:World):Prop:=
 ∃(l:List (Tm (n+1)))(a:List fG),IU n r s c w b e v wr l a
theorem fK(w:World)(o:Obj){q:Nat}(a:q<w.heap.size):(w.alloc o).heap[q]?=w.heap[q]? :=(cR w o none).block q a (by simp)
theorem Iw{n r:Nat}{s:ByteArray}{b e:Nat}{t0:fG}{a:List fG}{w w1:World}(h:Rd r s b e w)(c:At s b e (t0::a))(k:Rd r s (dF s e) (eD s e) w1)(g:((w.alloc (.cells #[ab 0,ab 0,af ⟨#[]⟩,ae none 0 0] 31)).alloc (.cells #[ab 4,ab 0,af ⟨#[]⟩,ae none 0 0] 31)).grownBy w1 (some r)):LC n r s a w (dF s e) (eD s e) (ae none 0 0) w1:=by
 have i:=h.lt;have d:=(At.cons c).2.1;refine⟨[],a,k,by rw[d];exact At.next c.2.1,bV (cR _ _ _) g,⟨⟨rfl,ah ⟨rfl,rfl⟩⟩,by simp⟩,?_,?_,rfl,am _,λ_=>rfl⟩
 ·exact((Bx.new w _ _ _ _).block (fK _ _ (by simp))).block (g.block _ (by simp;omega) (by simp;omega))
 ·have:=Bx.new (w.alloc (.cells #[ab 0,ab 0,af ⟨#[]⟩,ae none 0 0] 31)) (ab 4) (ab 0) (af ⟨#[]⟩) (ae none 0 0);have f:(w.alloc (.cells #[ab 0,ab 0,af ⟨#[]⟩,ae none 0 0] 31)).heap.size=w.heap.size+1:=by simp
  rw[f]at this;exact this.block (g.block _ (by simp) (by simp;omega))
theorem qS.kept{base n:Nat}{l:List (Tm n)}{v:Value}{w w':World}(a:qS base n l v w){r:Nat}(g:w.grownBy w' (some r))(k:r<base):qS base n l v w':=by
 refine⟨a.1.kept g (ai λf=>by have:=a.1.lt r f;omega),λe d=>⟨?_,(a.2 e d).2⟩⟩;obtain⟨c,h⟩:=a.2 e d;have i:=In.offB h c;exact(In.off (λb j=>g.block b j.2 (by simp;omega)) i c).mono g.size
theorem qS.snoc{base n:Nat}{l:List (Tm (n+1))}{v:Value}{w0 w w2:World}(h:qS base (n+1) l v w0){r:Nat}(i:w0.grownBy w (some r))(A:r<base){x:Tm (n+1)}(C:In w.heap.size w (n+1) x)(y:ch (λq=>w0.heap.size<=q) (n+1) x)(D:base<=w0.heap.size){w1:World}(j:w.grownBy w1 none){g c:Nat}(z:w2.ownsRow base 31 4 (ae (some ⟨g,0,none⟩) (l.length+1) c) (l.length+1) (cC (l.map (gj (n+1)))++vv (gj (n+1) x)))(k:w1.grownBy w2 v.ownBlock)(u:v.ownBlock=some g\/g=w1.heap.size):qS base (n+1) (l++ [x]) (ae (some ⟨g,0,none⟩) (l.length+1) c) w2:=by
 have p:=h.kept i A;have E:=i.size;have F:=j.size;have G:=k.size;have B:∀b,v.ownBlock=some b->b<w0.heap.size:=λb d=>(h.1.lt b d).2;refine⟨by simpa [cC]using z,λa f=>?_⟩
 have key:∀a:Tm (n+1),In w.heap.size w (n+1) a->ch (λb=>base<=b/\v.ownBlock≠some b) (n+1) a->
   In w2.heap.size w2 (n+1) a/\ch (λb=>base<=b/\(Value.slice (some ⟨g,0,none⟩) (l.length+1) c).ownBlock≠some b) (n+1) a:=by
  intro a m t;have o:=In.offB t m;refine⟨(In.off (λb e=>(k.block b (by omega) (λd=>e.1.2 d.symm)).trans (j.block b e.2 (by simp))) o m).mono (by omega),o.mono λb e=>⟨e.1.1,?_⟩⟩;intro d;have s:g=b:=by simpa [Value.ownBlock]using d
  rcases u with h|h
  ·exact e.1.2 (by rw[h,s])
  ·omega
 rcases dl.1 f with f|f
 ·exact key a (p.2 a f).1 (p.2 a f).2
 ·have d:a=x:=by simpa using f
  subst d;exact key a C (y.mono λb e=>⟨by omega,λd=>by have:=B b d;omega⟩)
theorem Ir{n r:Nat}{s:ByteArray}{t0:fG}{p:List fG}{w wr w2:World}{b e:Nat}{a:Option Addr}{L c m:Nat}(N:r<w.heap.size)(x:CO t0.2=true)(A:LC n r s p w b e (ae a L c) wr)(j:zi (s.extract b e)=true)(k:Rd r s (dF s e) (eD s e) w2)(g:(wr.drewN m).grownBy w2 (some r)):lT (n+2) s r (t0::p) (w.alloc (.cells #[ab 0,ab 0,af ⟨#[]⟩,ae none 0 0] 31)) w2 (.agg #[ab 4,ab 0,af ⟨#[]⟩,ae a L c]) true/\ Bx w.heap.size (ab 0) (ab 0) (af ⟨#[]⟩) (ae none 0 0) w2/\Bx (w.heap.size+1) (ab 4) (ab 0) (af ⟨#[]⟩) (ae a L c) w2:=by
 obtain⟨l,o,J,h,q,B,u,v,C,K,D⟩:=A;have P:=q.size;have G:=v.lt;have i:wr.grownBy w2 (some r):=bV (eN wr m _) g;obtain⟨H,I,ev,F,E⟩:=(B.kept i (by omega)).tup;injection ev with d f z;subst d f z;refine⟨⟨bV q i,dF s e,eD s e,jQ s e,k,At.next h.2.1,λ_=>⟨⟨_,rfl,?_,E,F.mono λO M=>by simp;omega⟩,?_⟩,by simp⟩,u.block (i.block _ u.lt (by simp;omega)),v.block (i.block _ G (by simp;omega))⟩
 ·cases o with
  | nil=>simp[zi,h.nil]at j
  | cons t o=>
   obtain⟨d,f,_⟩:=h.cons;subst d f;exact⟨t0,p,rfl,ai ⟨x,rfl,_,C,j⟩⟩
 ·intro y;cases o with
  | nil=>simp[zi,h.nil]at j
  | cons t o=>
   obtain⟨d,f,_⟩:=h.cons;subst d f;simp only[CN,x,cT];rw[D y,Ea _ _ _ _ j]
theorem lT.box{n r:Nat}{s:ByteArray}{d:List fG}{w w1:World}{o:Obj}{v:Value}{ok:Bool}(a:r<w.heap.size)(g:lT n s r d (w.alloc o) w1 v ok)(v0 v1 v2 v3:Value):lT n s r d w ((((w1.setCell ⟨w.heap.size,0,none⟩ v0).setCell ⟨w.heap.size,1,none⟩ v1).setCell ⟨w.heap.size,2,none⟩ v2).setCell ⟨w.heap.size,3,none⟩ v3) v ok:=by
 obtain⟨h,b,f,q,i,j,k,l⟩:=g;refine⟨mA (mA (mA (mA (bV (cR _ _ _) h) (am _) _ _) (am _) _ _) (am _) _ _) (am _) _ _,b,f,q,(((i.far a _ _).far a _ _).far a _ _).far a _ _,j,λm=>?_,l⟩;obtain⟨⟨t,u,x,y,e⟩,z⟩:=k m;have c:∀b,(w.alloc o).heap.size<=b->((((w1.setCell ⟨w.heap.size,0,none⟩ v0).setCell ⟨w.heap.size,1,none⟩ v1).setCell ⟨w.heap.size,2,none⟩ v2).setCell ⟨w.heap.size,3,none⟩ v3).heap[b]?=w1.heap[b]? :=λb c=>by
  have A:w.heap.size<b:=by simp at c;omega
  rw[eY _ _ _ _ (by simp;omega),eY _ _ _ _ (by simp;omega),eY _ _ _ _ (by simp;omega),eY _ _ _ _ (by simp;omega)]
 refine⟨⟨t,u,x,(In.off c e y).mono (by simp[World.setCell]),e.mono λB p=>by simp at p;omega⟩,z⟩
theorem lT.alloc{n r:Nat}{s:ByteArray}{a:List fG}{w w1:World}{v:Value}{ok:Bool}(f:lT n s r a w w1 v ok)(o:Obj):lT n s r a w (w1.alloc o) v ok:=by
 obtain⟨g,b,e,p,h,i,j,k⟩:=f;refine⟨fO g o,b,e,p,h.alloc o,i,λm=>?_,k⟩;obtain⟨⟨q,t,u,c,d⟩,x⟩:=j m;exact⟨⟨q,t,u,(In.off (λb l=>fK w1 o l.2) (In.offB d c) c).mono (by simp),d⟩,x⟩
theorem At.no{s:ByteArray}{b e:Nat}{a:List fG}(d:At s b e a)(f:zi (s.extract b e)=false):∀t c,a=t::c->zi t.2=false:=by
 intro t c e;subst e;rw[d.cons.1];exact f
theorem yq{n r:Nat}{s:ByteArray}{h f:List fG}{w wr w1:World}{b e m:Nat}{v:Value}{l:List (Tm (n+1))}(u:r<w.heap.size)(a:IU n r s h w b e v wr l f)(g:(wr.drewN m).grownBy w1 (some r)):Bx w.heap.size (ab 0) (ab 0) (af ⟨#[]⟩) (ae none 0 0) w1/\Bx (w.heap.size+1) (ab 4) (ab 0) (af ⟨#[]⟩) v w1/\w.heap.size+1<w1.heap.size:=by
 obtain⟨i,j,k,o,c,d,p,q,t⟩:=a;have a:=d.block (g.block _ d.lt (by simp;omega));exact⟨c.block (g.block _ c.lt (by simp;omega)),a,a.lt⟩
theorem Iu{n r:Nat}{s:ByteArray}{t0:fG}{d c:List fG}{w wr w1:World}{b e m:Nat}{v A:Value}{l:List (Tm (n+1))}(q:CO t0.2=true)(i:IU n r s d w b e v wr l c)(p:zi (s.extract b e)=false)(R:lT (n+1) s r c (wr.drewN m) w1 A false)(u:Value):lT (n+2) s r (t0::d) (w.alloc (.cells #[ab 0,ab 0,af ⟨#[]⟩,ae none 0 0] 31)) w1 u false:=by
 obtain⟨B,j,k,C,D,E,F,G,o⟩:=i;obtain⟨h,f,g,z,t,x,_,y⟩:=R;refine⟨bV k (bV (eN wr m _) h),f,g,z,t,x,by simp,λ_ a=>?_⟩;simp only[CN,q,cT];rw[o a,B9 _ _ _ (j.no p)];exact y rfl (a+1)
theorem Fh{n:Nat}:(l:List (Tm n))->(a r:List fG)->EF (Is n) l a r->l.length+r.length<=a.length
 | [],a,r,h=>by have e:a=r:=h;subst e;simp
 | x::l,a,r,h=>by
  obtain⟨m,b,c⟩:=h;have d:=Fh l m r c;have f:=tY n x a m b;have g:0<(ay n x).length:=by
   cases n with
   | zero=>exact b.elim
   | succ n=>simp[ay]
  simp only[bi];omega
theorem M2{n r:Nat}{s:ByteArray}{h o:List fG}{w wr w1:World}{b e m:Nat}{a:Option Addr}{L c:Nat}{l:List (Tm (n+1))}(F:r<w.heap.size)(q:IU n r s h w b e (ae a L c) wr l o)(g:(wr.drewN m).grownBy w1 (some r))(E:h.length<=2048):l.length=L/\L<=2048/\∀d f,((w1.alloc d).alloc f).ownsRow (w.heap.size+2) 31 4 (ae a L c) L (cC (l.map (gj (n+1)))):=by
 obtain⟨x,y,z,k,A,B,t,C,D⟩:=q;have p:wr.grownBy w1 (some r):=bV (eN wr m _) g;obtain⟨u,v,ev,_⟩:=k.tup;injection ev with _ i _;have:=Fh l h o t;have j:=(k.kept p (by omega)).1;rw[<-i]at j;exact⟨i.symm,by omega,λd f=>(j.alloc d).alloc f⟩
theorem Iv{n r:Nat}{s:ByteArray}{S z:List fG}{w wr w1 f:World}{b e m:Nat}{a:Option Addr}{L c:Nat}{l:List (Tm (n+1))}(al:r<w.heap.size)(D:IU n r s S w b e (ae a L c) wr l z)(ah:zi (s.extract b e)=false){k u:Int}{t:ByteArray}{q:Option Addr}{y v:Nat}(R:lT (n+1) s r z (wr.drewN m) w1 (.agg #[ab k,ab u,af t,ae q y v]) true){O P:Obj}{g h:Nat}(ag:l.length=L)(I:f.ownsRow (w.heap.size+2) 31 4 (ae (some ⟨g,0,none⟩) (L+1) h) (L+1) (cC (l.map (gj (n+1)))++ [ab k,ab u,af t,ae q y v]))(x:((w1.alloc O).alloc P).grownBy f (Value.slice a L c).ownBlock)(ai:(Value.slice a L c).ownBlock=some g\/g=w1.heap.size+2):(Bx (w.heap.size+1) (ab 4) (ab 0) (af ⟨#[]⟩) (ae a L c) f/\ ∃j o,LC n r s S w j o (ae (some ⟨g,0,none⟩) (L+1) h) (f.setCell ⟨w.heap.size+1,3,none⟩ (ae (some ⟨g,0,none⟩) (L+1) h))/\Pa r s (f.setCell ⟨w.heap.size+1,3,none⟩ (ae (some ⟨g,0,none⟩) (L+1) h))<Pa r s wr):=by
 subst ag;obtain⟨aq,ar,aE⟩:=yq al D R.1;obtain⟨X,E,Y,F,aA,Z,aa,aB,ad⟩:=D;obtain⟨W,j,o,T,an,M,ao,_⟩:=R;have C:wr.grownBy w1 (some r):=bV (eN wr m _) W;obtain⟨⟨i,p,U,au,av⟩,aw⟩:=ao rfl;have H:∀b,(Value.slice a l.length c).ownBlock=some b->w.heap.size+2<=b:=λb e=>(F.1.lt b e).1;have aj:vv (gj (n+1) i)=[ab k,ab u,af t,ae q y v]:=by
  have V:dq (n+1) i=.agg (vv (gj (n+1) i)).toArray:=rfl;rw[V]at p;injection p with p;exact Array.toList_inj.2 p
 rw[<-aj]at I;have K:=F.snoc C (by omega) au av (by have:=Z.lt;simp;omega) (w1:=(w1.alloc O).alloc P) (fO (fO (eN w1 0 _) _) _) I x (by simpa using ai);have ak:∀d,d<w.heap.size+2->some d≠(Value.slice a l.length c).ownBlock:=λd J e=>by have:=H d e.symm;omega
 have A:∀d,d<w.heap.size+2->f.heap[d]?=w1.heap[d]? :=λd J=>(x.block d (by simp;omega) (ak d J)).trans ((fK _ _ (by simp;omega)).trans (fK _ _ (by omega)));have Q:=ar.block (A (w.heap.size+1) (by omega));have ap:Rd r s j o f:=an.block (A r (by omega));have az:f.heap.size=(f.setCell ⟨w.heap.size+1,3,none⟩ (ae (some ⟨g,0,none⟩) (l.length+1) h)).heap.size:=by simp[World.setCell]
 have N:=ap.far (g:=w.heap.size+1) (by omega) 3 (ae (some ⟨g,0,none⟩) (l.length+1) h);have aC:=tY (n+1) i z T U;have aD:0<(ay (n+1) i).length:=by simp[ay]
 refine⟨Q,j,o,⟨l++ [i],T,N,M,?_,?_,?_,Q.set3 _,aa.snoc U,by omega,λB=>?_⟩,?_⟩
 ·refine mA (GQ (fO (fO (bV Y C) _) _) x λb G=>?_) (by simp) _ _;have:=H b G;simp;omega
 ·refine⟨ownsRow_setCell_below (by simpa using K.1) (by simp) _,λax am=>?_⟩;obtain⟨y1,y2⟩:=K.2 ax am;refine⟨?_,y2⟩;rw[<-az];exact In.off (λb G=>eY _ _ _ _ (by simp;omega)) y2 y1
 ·exact(aq.block (A w.heap.size (by omega))).block (eY _ _ _ _ (by simp))
 ·rw[ad B,B9 _ _ _ (E.no ah)];exact aw (B+1)
 ·rw[Ka N M,Ka X E];omega
theorem Gs(w:World)(o:Obj)(v0 v1 v2 v3:Value)(e:TypeId):∀(j:Nat)(u:Value),[v0,v1,v2,v3][j]?=some u->((w.alloc o).alloc (.cells #[v0,v1,v2,v3] e)).cell? ((⟨w.heap.size+1,0,none⟩:Addr).add j)=some u:=by
 intro j u a;rw[fm];rw[World.cell?_alloc_at _ _ _ _ (by simp)];simpa using a
theorem JG(k u:Int)(t:ByteArray)(a:Option Addr)(l c:Nat):∀v∈[Value.int .i64 k,ab u,af t,ae a l c],v.oneCell'=true:=by
 intro v b;simp at b;rcases b with rfl|rfl|rfl|rfl<;>rfl
theorem Ex(n:Nat)(ih:Nj n)(r:Nat)(s:ByteArray)(b e:Nat)(t0:fG)(y:List fG)(w:World)(G:Rd r s b e w)(Q:At s b e (t0::y))(E:s.size<=2048)(U:y.length<=n)(V:CO t0.2=true):ak 108 #[aC r] w λg w'=>LA (n+2) s r (t0::y) w w' g:=by
 have q:=G.lt;obtain⟨aw,T,X,Y,Z⟩:=bR gm;have B:=ap (⟨T,X,Y,Z⟩:_/\_/\_/\_);clear T X Y Z;have d:=ap (⟨G,Q,E,U,V⟩:_/\_/\_/\_/\_);have aj:=ap ih;clear G Q U V ih;go_enter func108,ntmps108;go_wp2_with (go_at_call 68;refine(rC r s b e _ ((d.1.alloc _).alloc _) d.2.1.2.1 E).mono ?_;rintro g ah ⟨rfl,m⟩);go_loopw [] (λwr=>∃(b e:Nat)(D:Option Addr)(u c:Nat),Hid (LC n r s y w b e (ae D u c) wr)/\True) (λwr=>Pa r s wr)
 case atStart=>exact⟨_,_,_,_,_,Iw d.1 d.2.1 m.1 m.2,trivial⟩
 case round=>
  obtain⟨f,h,D,u,c,P,_⟩:=hrel;clear m;obtain⟨l,I,i⟩:=P.out;replace i:=ap i;obtain⟨j,aa⟩:∃j,s.extract f h=j:=⟨_,rfl⟩;have C:=ap aa;clear aa;have a:Hid (Rd r s f h wr/\At s f h I/\I.length<=n/\y.length<=2048):=by
   obtain⟨o,p,H,aI,aJ,aK,aL,aq,aM⟩:=i.out;refine⟨o,p,az aq d.2.2.2.1,?_⟩;have:=lQ s (s.size-e) e (am _);rw[<-d.out.2.1.cons.2.1]at this;omega
  cases hc:(j.toList==[41])
  ·have aN:(j.toList=[41])=False:=by simpa using hc
   have aO:(j.toList !=[41])=true:=by simpa using hc
   have O:Hid (zi (s.extract f h)=false):=by rw[C.out];exact hc
   go_wp2_with (first
    | (go_at_call 70;refine(pd r s f h j wr a.1 a.2.1.1 a.2.1.2.1 C).mono ?_;rintro g ah ⟨rfl,x,rfl⟩)
    | (go_at_call 69;refine(aj r s f h I (wr.drewN x) (a.1.drew x) a.2.1 E a.2.2.1).mono ?_;rintro g F ⟨k,aE,t,al,aD,ao,ok,rfl,A⟩;obtain⟨ad,ag,aP⟩:=yq q i A.1;have ar:w.heap.size<F.heap.size:=(by omega);obtain⟨⟨J,K,L,M⟩,f0,f1,f2,f3⟩:=ad.cells;obtain⟨⟨y0,y1,y2,aF⟩,ax,ay,aA,aB⟩:=ag.cells;clear ad ag;cases ok)
    | (at_builtin;have z:=ap (M2 q i A.1 a.2.2.2);refine wpList_append_lies _ rfl _ _ 29 rfl (w.heap.size+2) 31 aw _ 4 56 underlying29 B.1 B.2.1 B.2.2.1 B.2.2.2 rfl (by decide) _ u _ rfl (z.2.2 _ _) ⟨F.heap.size+1,0,none⟩ 1 1 [ab k,ab aE,af t,ae al aD ao] rfl rfl (Gs _ _ _ _ _ _ _) (JG _ _ _ _ _ _) (by decide) (by have:=z.2.1;unfold maxLen;omega) (by have:=z.2.1;omega) (by simp;omega) (F.heap.size+2) (by simp) ?_;intro aH aG aU W S R au;have N:=ap (Iv q i O A z.1 W S R);obtain⟨⟨aV,aW,aX,aY⟩,aQ,aR,aS,aT⟩:=N.out.1.cells;clear W S R au))
   ·exact av (v:=.tuple #[.agg #[ab 0,ab 0,af ⟨#[]⟩,ae none 0 0],.bool false]) (by simp[results,results108,go_sem,J,K,L,M,ar]) rfl ⟨0,0,⟨#[]⟩,none,0,0,false,rfl,(lT.box q (Iu d.2.2.2.2 i O A _) _ _ _ _).alloc _⟩
   ·obtain⟨an,g,o,p⟩:=N.2;go_roundw
    case rel=>exact⟨an,g,_,_,_,o,trivial⟩
    case measure=>exact p
  ·go_wp2_with (first
     | (go_at_call 70;refine(pd r s f h j wr a.1 a.2.1.1 a.2.1.2.1 C).mono ?_;rintro g ah ⟨rfl,x,rfl⟩)
     | (go_at_call 68;refine(rC r s f h (wr.drewN x) (a.1.drew x) a.2.1.2.1 E).mono ?_;rintro g F ⟨rfl,m⟩;obtain⟨o,p,H⟩:=Ir q d.2.2.2.2 P (by rw[C.out];exact hc) m.1 m.2;obtain⟨⟨J,K,L,M⟩,f0,f1,f2,f3⟩:=p.cells;obtain⟨⟨y0,y1,y2,aF⟩,ax,ay,aA,aB⟩:=H.cells;have ai:=ap (lT.box q o);clear o p H))
   exact av (v:=.tuple #[.agg #[ab 4,ab 0,af ⟨#[]⟩,ae D u c],.bool true]) (by simp[results,results108,go_sem,J,K,L,M]) rfl ⟨4,0,⟨#[]⟩,D,u,c,true,rfl,ai _ _ _ _⟩
theorem JX{x:ByteArray}(a:x.toList=[]):fE x=false:=by
 rw[cu]at a;have b:x.size=0:=by
  have:x.data.toList.length=x.size:=by simp
  rw[a]at this;exact this.symm
 simp[fE,cu,eU,a,b]
theorem lT.undrew{n r:Nat}{s:ByteArray}{a:List fG}{w w1:World}{m:Nat}{v:Value}{ok:Bool}(b:lT n s r a (w.drewN m) w1 v ok):lT n s r a w w1 v ok:=by
 obtain⟨c,d⟩:=b;exact⟨bV (eN w m _) c,d⟩
theorem JY{n r:Nat}{s:ByteArray}{b e:Nat}{d:List fG}{w w1 w2:World}{x:ByteArray}(a:At s b e d)(f:s.extract b e=x)(z:s.size<=2048)(h:CO x=false){k u:Int}{t:ByteArray}(c:fE x=true)(q:(k,u,t)=lk x)(A:t.size<=x.size)(m:dx k)(p:dx u){o:Obj}(l:aj w w1)(v:Rd r s (dF s e) (eD s e) w2)(g:(w1.alloc o).grownBy w2 (some r)):lT (n+1) s r d w w2 (.agg #[ab k,ab u,af t,ae none 0 0]) true:=by
 have B:x.size<=2048:=by rw[<-f];simp;have:=a.2.1;omega
 refine⟨bV (fO (om (gD w _) l) o) g,dF s e,eD s e,jQ s e,v,At.next a.2.1,λ_=>?_,by simp⟩;cases d with
 | nil=>
  have:=a.nil;rw[f]at this;rw[JX this]at c;exact absurd c (by simp)
 | cons t0 d=>
  obtain⟨i,j,_⟩:=a.cons;subst i j;rw[f];refine⟨⟨((k,u,t),(none,0),[]),rfl,⟨_,_,rfl,ah ⟨h,c,q,rfl,rfl⟩⟩,⟨⟨m,p,by unfold maxLen;simp only;omega,aH _,aH _⟩,ah rfl⟩,ah rfl⟩,λy=>?_⟩;simp only[CN,h,c];simp
theorem Mt{n r:Nat}{s:ByteArray}{b e:Nat}{a:List fG}{w w1:World}{x:ByteArray}(d:At s b e a)(k:s.extract b e=x)(j:CO x=false)(i:fE x=false)(c:Rd r s b e w)(f:aj w w1)(v:Value):lT (n+1) s r a w w1 v false:=by
 refine⟨om (gD w _) f,b,e,a,c.block (f.block r c.lt),d,by simp,λ_ l=>?_⟩;cases a with
 | nil=>rfl
 | cons t0 a=>
  obtain⟨g,h,_⟩:=d.cons;subst g h;simp only[CN,k,j,i];simp[Kt]
theorem FS{w w1:World}{m:Nat}(a:Below (w.drewN m).heap.size (w.drewN m) w1):aj w w1:=⟨a.os,a.tape,a.output,a.size,a.block⟩
theorem uy{w w2:World}{r:Nat}{v0 v1 v2 v3:Value}(a:r<w.heap.size)(g:(w.alloc (.cells #[v0,v1,v2,v3] 31)).grownBy w2 (some r)):Bx w.heap.size v0 v1 v2 v3 w2:=
 (Bx.new w v0 v1 v2 v3).block (g.block _ (by simp) (by simp;omega))
theorem yj(n:Nat)(r:Nat)(s:ByteArray)(b e:Nat)(p:List fG)(w:World)(l:Rd r s b e w)(D:At s b e p)(E:s.size<=2048)(ih:∀w':World,Rd r s b e w'->CO (s.extract b e)=true->ak 108 #[aC r] w' λd S=>LA (n+1) s r p w' S d):ak 69 #[aC r] w λd w'=>LA (n+1) s r p w w' d:=by
 have h:=l.lt;have a:=ap (⟨l,D⟩:_/\_);have O:=ap ih;clear l D ih;obtain⟨c,m⟩:∃c,s.extract b e=c:=⟨_,rfl⟩;have g:=ap m;have R:c.size<=2048:=by rw[<-m];simp;have:=a.2.2.1;omega
 clear m;cases hc:(c.toList==[40])
 ·have X:(c.toList=[40])=False:=by simpa using hc
  have Y:(c.toList !=[40])=true:=by simpa using hc
  go_enter func69,ntmps69
  go_wp2_with (first
   | (go_at_call 70;refine(pd r s b e c _ (a.1.alloc _) a.2.1 a.2.2.1 g).mono ?_;rintro d L ⟨rfl,o,rfl⟩)
   | (go_at_call 70;refine(pd r s b e c _ ((a.1.alloc _).drew o) a.2.1 a.2.2.1 g).mono ?_;rintro d L ⟨rfl,ah,rfl⟩)
   | (go_at_call 109;refine(Hg c _ R).mono ?_;rintro d q ⟨⟨k,f,t,ok,rfl,A⟩,HB⟩;replace HB:=FS HB;obtain⟨⟨u,x,y,z⟩,f0,f1,f2,f3⟩:=yI HB;have P:w.heap.size<q.heap.size:=(by have:=HB.size;simp at this;omega);have Q:r<q.heap.size:=(by omega);replace HB:=ap HB;cases ok)
   | (go_at_call 68;refine(rC r s b e _ ((((a.1.alloc _).block (HB.block r (by simp;omega)))).alloc _) a.2.2.1 E).mono ?_;rintro d an ⟨rfl,i⟩;have N:=ap (bV (fO (om (gD _ _) HB) _) i.2);obtain⟨⟨T,U,V,W⟩,ai,aj,al,am⟩:=(uy h N).cells;obtain⟨⟨y0,y1,y2,ao⟩,Z,aa,ad,ag⟩:=(uy Q i.2).cells;obtain⟨G,H,I,J,K⟩:=A.out;have M:=ap (lT.box h (JY (n:=n) a.2 g E hc G.symm (H (by trivial)) I J K HB i.1 i.2));clear G H I J K))
  ·exact av (v:=.tuple #[.agg #[ab k,ab f,af t,ae none 0 0],.bool false]) (by simp[results,results69,go_sem,u,x,y,z,P]) rfl ⟨k,f,t,none,0,0,false,rfl,(lT.box h (Mt a.2 g hc A.1.symm (a.1.alloc _) HB _) _ _ _ _).alloc _⟩
  ·exact av (v:=.tuple #[.agg #[ab k,ab f,af t,ae none 0 0],.bool true]) (by simp[results,results69,go_sem,T,U,V,W]) rfl ⟨k,f,t,none,0,0,true,rfl,M _ _ _ _⟩
 ·go_enter func69,ntmps69
  go_wp2_with (first
   | (go_at_call 70;refine(pd r s b e c _ (a.1.alloc _) a.2.1 a.2.2.1 g).mono ?_;rintro d L ⟨rfl,o,rfl⟩)
   | (go_at_call 108;refine(O _ ((a.1.alloc _).drew o) (by rw[g.out];exact hc)).mono ?_;rintro d q ⟨k,f,t,B,F,C,ok,rfl,j⟩;replace j:=ap j.undrew;obtain⟨⟨u,x,y,z⟩,f0,f1,f2,f3⟩:=(uy h j.1).cells))
  exact av (v:=.tuple #[.agg #[ab k,ab f,af t,ae B F C],.bool ok]) (by simp[results,results69,go_sem,u,x,y,z]) rfl ⟨k,f,t,B,F,C,ok,rfl,lT.box h j _ _ _ _⟩
theorem Hi(n:Nat):Nj n:=by
 induction n with
 | zero=>
  intro g h b d c k j a f l;refine yj 0 g h b d c k j a f λm _ e=>?_;have i:c=[]:=bE (by omega);subst i;simp[CO,a.nil]at e
 | succ n ih=>
  intro g h b d c k j a f l;refine yj (n+1) g h b d c k j a f λm o e=>?_;cases c with
  | nil=>simp[CO,a.nil]at e
  | cons t c=>
   have i:=a.cons.1;refine Ex n ih g h b d t c m o a f (by simp at l;omega) ?_;rw[i];exact e
def oE:Value:=.agg #[ab 0,ab 0,af ⟨#[]⟩,ae none 0 0]
def PF(s:ByteArray)(w w':World)(v:Value)(pos b:Int):Prop:=
 (2048<s.size/\v=oE/\pos=0/\b=2)\/(∃c:Nat,s.size<=2048/\CN s.size (jQ s 0) 0=some c/\v=oE/\pos=c/\b=3)\/
  (s.size<=2048/\CN s.size (jQ s 0) 0=none/\∃(n:Nat)(a:Tm n),Is n a (jQ s 0) []/\In w'.heap.size w' n a/\ch (λd=>w.heap.size<=d) n a/\pos=0/\b=bz n a/\((bz n a≠0/\v=oE)\/(bz n a=0/\v=dq n a)))
def PE(s:ByteArray)(w w':World)(e:Ending):Prop:=
 ∃(k d:Int)(t:ByteArray)(a:Option Addr)(l c:Nat)(pos b:Int),e=.returned (.tuple #[.agg #[ab k,ab d,af t,ae a l c],ab pos,ab b])/\
  Hid (PF s w w' (.agg #[ab k,ab d,af t,ae a l c]) pos b/\aj w w')
theorem vN{w:World}{q b:Nat}(a:b≠q)(v0 v1 v2 v3:Value):((((w.setCell ⟨q,0,none⟩ v0).setCell ⟨q,1,none⟩ v1).setCell ⟨q,2,none⟩ v2).setCell ⟨q,3,none⟩ v3).heap[b]?=w.heap[b]? :=by
 rw[eY _ _ _ _ (by simpa using a),eY _ _ _ _ (by simpa using a),eY _ _ _ _ (by simpa using a),eY _ _ _ _ (by simpa using a)]
theorem xW{w:World}{q:Nat}(v0 v1 v2 v3:Value):((((w.setCell ⟨q,0,none⟩ v0).setCell ⟨q,1,none⟩ v1).setCell ⟨q,2,none⟩ v2).setCell ⟨q,3,none⟩ v3).heap.size=w.heap.size:=by simp[World.setCell]
theorem G8{s:ByteArray}{w w2 a:World}(g:((w.alloc (.cells #[ab 0,ab 0,af ⟨#[]⟩,ae none 0 0] 31)).alloc (.cells #[af s,ab 0,ab 0] 146)).grownBy w2 (some (w.heap.size+1)))(b:w2.grownBy a (some (w.heap.size+1))):Bx w.heap.size (ab 0) (ab 0) (af ⟨#[]⟩) (ae none 0 0) a/\w.heap.size+1<a.heap.size/\aj w a/\w.heap.size+2<=w2.heap.size:=by
 have c:=bV g b;have e:=g.size;have h:=b.size;simp at e;refine⟨((Bx.new w _ _ _ _).block (fK _ _ (by simp))).block (c.block _ (by simp;omega) (by simp)),by omega,?_,by omega⟩;exact(((ao _ _).alloc (am _) _).alloc (by simp) _).grown c (by simp;omega) (λf d=>by simp at d;omega)
theorem In.drewN{B:Nat}{w:World}{n:Nat}{x:Tm n}(m:Nat){P:Nat->Prop}(k:ch P n x)(a:In B w n x):In B (w.drewN m) n x:=In.off (w:=w) (w':=w.drewN m) (λ_ _=>rfl) k a
theorem Kn{s:ByteArray}{w w2 c:World}{v:Value}{b e:Nat}{a:List fG}{x:ByteArray}(A:s.extract b e=x)(z:(x.toList==[])=true)(D:s.size<=2048)(r:At s b e a)(E:w.heap.size+2<=w2.heap.size)(l:(∃x:Tm 2049,dq 2049 x=v/\Is 2049 x (jQ s 0) a/\In c.heap.size c 2049 x/\ch (λq=>w2.heap.size<=q) 2049 x)/\∀d,CN s.size (jQ s 0) d=jV s.size a d)(o:Obj)(m:Nat):∃y:Tm 2049,v=dq 2049 y/\Is 2049 y (jQ s 0) []/\In ((c.alloc o).drewN m).heap.size ((c.alloc o).drewN m) 2049 y/\ch (λq=>w.heap.size+2<=q) 2049 y/\(ay 2049 y).length<=2097152/\CN s.size (jQ s 0) 0=none:=by
 obtain⟨⟨y,n,h,i,f⟩,p⟩:=l;have j:a=[]:=by
  cases a with
  | nil=>rfl
  | cons t a=>
   have k:=r.cons.2.2;rw[A]at k;have g:x.toList=[]:=by simpa using z
   rw[cu]at g;have:x.data.toList.length=x.size:=by simp
   rw[g]at this;simp at this;omega
 subst j;have B:=tY 2049 y (jQ s 0) [] h;have g:=lQ s s.size 0 (by omega);refine⟨y,n.symm,h,In.drewN m f ((In.off (λb u=>fK c o u.2) (In.offB f i) i).mono (by simp)),f.mono λq C=>by omega,by simp at B;omega,p 0⟩
theorem Kl{w a c:World}{m:Nat}{v0 v1 v2 v3:Value}(d:Bx w.heap.size (ab 0) (ab 0) (af ⟨#[]⟩) (ae none 0 0) a)(b:Below ((a.alloc (.cells #[v0,v1,v2,v3] 31)).drewN m).heap.size ((a.alloc (.cells #[v0,v1,v2,v3] 31)).drewN m) c):Bx w.heap.size (ab 0) (ab 0) (af ⟨#[]⟩) (ae none 0 0) c/\Bx a.heap.size v0 v1 v2 v3 c:=by
 have e:=d.lt;exact⟨(d.block (fK _ _ e)).block (b.block _ (by simp;omega)),(Bx.new a v0 v1 v2 v3).block (b.block _ (by simp))⟩
theorem Km{s:ByteArray}{b e:Nat}{a:List fG}{x:ByteArray}(g:s.extract b e=x)(d:(x.toList==[])=false)(c:At s b e a)(f:CN s.size (jQ s 0) 0=jV s.size a 0):CN s.size (jQ s 0) 0=some b:=by
 rw[f,<-c.pos];cases a with
 | nil=>rw[<-g]at d;simp[c.nil]at d
 | cons t a=>rfl
theorem Kk{w w4 a:World}{n:Nat}{y:Tm n}(c:In w4.heap.size w4 n y)(k:ch (λq=>w.heap.size+2<=q) n y)(b:aj w4 a)(v0 v1 v2 v3:Value):In ((((a.setCell ⟨w.heap.size,0,none⟩ v0).setCell ⟨w.heap.size,1,none⟩ v1).setCell ⟨w.heap.size,2,none⟩ v2).setCell ⟨w.heap.size,3,none⟩ v3).heap.size ((((a.setCell ⟨w.heap.size,0,none⟩ v0).setCell ⟨w.heap.size,1,none⟩ v1).setCell ⟨w.heap.size,2,none⟩ v2).setCell ⟨w.heap.size,3,none⟩ v3) n y:=by
 rw[xW];exact In.off (λq d=>vN (by omega) _ _ _ _) k ((c.below b).mono b.size)
theorem qe{w w1:World}(a:aj w w1)(v0 v1 v2 v3:Value):aj w ((((w1.setCell ⟨w.heap.size,0,none⟩ v0).setCell ⟨w.heap.size,1,none⟩ v1).setCell ⟨w.heap.size,2,none⟩ v2).setCell ⟨w.heap.size,3,none⟩ v3):=
 ⟨a.os,a.tape,a.output,by rw[xW];exact a.size,λk b=>(vN (by omega) _ _ _ _).trans (a.block k b)⟩
theorem kX{B:Nat}{w w1:World}(a:Below B w w1)(m:Nat):Below B w (w1.drewN m):=⟨a.os,a.tape,a.output,a.size,a.block⟩
theorem mg{w w1:World}(a:aj w w1)(o:Obj):aj w (w1.alloc o):=a.alloc a.size o
theorem G9(s:ByteArray)(w:World)(S:s.size<=maxLen):ak 39 #[af s] w λe w'=>PE s w w' e:=by
 unfold maxLen at S;by_cases D:2048<s.size
 ·have Q:(2048:Int)<s.size:=by omega
  go_enter func39,ntmps39;go_wp2_with fail;exact av (v:=.tuple #[oE,ab 0,ab 2]) (by simp[results,results39,go_sem,oE]) rfl ⟨0,0,⟨#[]⟩,none,0,0,0,2,rfl,ah ⟨D,rfl,rfl,rfl⟩,by go_grown⟩
 ·have Q:(s.size:Int)<=2048:=by omega
  have i:s.size<=2048:=by omega
  clear D;have P:Hid (Rd (w.heap.size+1) s 0 0 ((w.alloc (.cells #[ab 0,ab 0,af ⟨#[]⟩,ae none 0 0] 31)).alloc (.cells #[af s,ab 0,ab 0] 146))):=by
   have:=aA (w.alloc (.cells #[ab 0,ab 0,af ⟨#[]⟩,ae none 0 0] 31)) (.cells #[af s,ab 0,ab 0] 146);simpa [Hid,Rd]using this
  go_enter func39,ntmps39
  go_wp2_with (first
   | (go_at_call 68;refine(rC (w.heap.size+1) s 0 0 _ P (aH _) i).mono ?_;rintro o U ⟨rfl,B⟩)
   | (go_at_call 69;refine(Hi 2048 (w.heap.size+1) s _ _ (jQ s 0) U B.1 (At.next (aH _)) i (az (lQ s s.size 0 (by omega)) (by omega))).mono ?_;rintro o V ⟨k,A,t,y,l,c,ok,rfl,C⟩;obtain⟨q,an,G,H⟩:=G8 B.2 C.1;obtain⟨⟨K,L,M,N⟩,f0,f1,f2,f3⟩:=q.cells;have E:w.heap.size<V.heap.size:=(by omega);obtain⟨_,d,o,ay,b⟩:=C;replace b:=ap b;obtain⟨⟨W,X,Y⟩,ao,aq⟩:=b.out.1.cells;have HB:=ap (⟨G,H⟩:_/\_);replace q:=ap q;clear G H;obtain⟨r,F⟩:∃r,s.extract d o=r:=⟨_,rfl⟩;have x:=ap F;clear F;cases ok)
   | (go_at_call 70;refine(pd (w.heap.size+1) s d o r _ (b.1.alloc _) b.2.1.1 b.2.1.2.1 x).mono ?_;rintro Z aB ⟨rfl,m,rfl⟩;cases hc:(r.toList==[]))
   | (go_at_call 53;obtain⟨u,p,a⟩:=Kn x hc i b.2.1 HB.2 (b.2.2.1 (by trivial)) _ m;replace a:=ap a;refine(show Calls _ _ #[.agg #[ab k,ab A,af t,ae y l c]] _ _ from p▸dL 2049 u _ _ a.2.1 (am _) a.2.2.2.1).mono ?_;rintro aa aC ⟨rfl,h⟩;obtain⟨I,J⟩:=Kl q h;obtain⟨⟨y0,y1,y2,O⟩,ad,ag,aj,al⟩:=I.cells;obtain⟨⟨aD,aE,aF,aG⟩,ar,au,aw,ax⟩:=J.cells;have n:=ap h;clear I J h;replace p:=ap p;obtain⟨j,g⟩:∃j,bz 2049 u=j:=⟨_,rfl⟩;rw[g];replace g:=ap g;by_cases z:j=0))
  ·go_region;go_wp2_with fail;have f:=HB.1;exact av (v:=.tuple #[oE,ab d,ab 3]) (by simp[results,results39,go_sem,oE,E,K,L,M,N]) rfl ⟨0,0,⟨#[]⟩,none,0,0,d,3,rfl,ai (ah ⟨d,i,by rw[<-b.out.2.1.pos];exact b.2.2.2 (by trivial) 0,rfl,rfl,rfl⟩),by go_grown⟩
  ·go_region;go_wp2_with fail;have f:=HB.1;exact av (v:=.tuple #[oE,ab d,ab 3]) (by simp[results,results39,go_sem,oE,E,K,L,M,N]) rfl ⟨0,0,⟨#[]⟩,none,0,0,d,3,rfl,ai (ah ⟨d,i,Km x hc b.2.1 ((b.2.2.1 (by trivial)).2 0),rfl,rfl,rfl⟩),qe (kX (mg f _) _) _ _ _ _⟩
  ·have f:=HB.1;have h:=n.out;exact av (v:=.tuple #[.agg #[ab k,ab A,af t,ae y l c],ab 0,ab 0]) (by simp[results,results39,go_sem,y0,y1,y2,O]) rfl ⟨k,A,t,y,l,c,0,0,rfl,ai (ai ⟨i,a.2.2.2.2,2049,u,a.1,Kk a.2.1 a.2.2.1 n _ _ _ _,a.2.2.1.mono (λT R=>by omega),rfl,(g.trans z).symm,ai ⟨g.trans z,p⟩⟩),qe ((kX (mg f _) m).trans (h.mono (kX (mg f _) m).size)) _ _ _ _⟩
  ·have f:=HB.1;have h:=n.out;exact av (v:=.tuple #[oE,ab 0,ab j]) (by simp[results,results39,go_sem,oE,y0,y1,y2,O]) rfl ⟨0,0,⟨#[]⟩,none,0,0,0,j,rfl,ai (ai ⟨i,a.2.2.2.2,2049,u,a.1,Kk a.2.1 a.2.2.1 n _ _ _ _,a.2.2.1.mono (λT R=>by omega),rfl,g.symm,ah ⟨by rw[g.out];exact z,rfl⟩⟩),qe ((kX (mg f _) m).trans (h.mono (kX (mg f _) m).size)) _ _ _ _⟩
def Od{a:Type}(f:a->List fG->Option (List fG)):List a->List fG->Option (List fG)
 | [],ts=>some ts
 | x::l,ts=>(f x ts).bind (Od f l)
def PR:(n:Nat)->Tm n->List fG->Option (List fG)
 | 0,_,_=>none
 | _+1,_,[]=>none
 | n+1,x,t::ts=>if CO t.2=true then if x.1=(4,0,⟨#[]⟩)then (Od (PR n) x.2.2 ts).bind λr=>match r with
    | []=>none
    | c::r=>if zi c.2=true then some r else none else none
  else if fE t.2=true/\x.1=lk t.2/\x.2.2.length=0 then some ts else none
theorem Fe{b:Type}{f:b->List fG->Option (List fG)}{g:b->List fG->List fG->Prop}(c:∀x a r,f x a=some r->g x a r):(l:List b)->∀{a r:List fG},Od f l a=some r->EF g l a r
 | [],a,r,e=>by
  have e:some a=some r:=e;exact aw e
 | x::l,a,r,e=>by
  obtain⟨m,d,h⟩:=bu.1 e;exact⟨m,c x a m d,Fe c l h⟩
theorem uY:(n:Nat)->(x:Tm n)->(e r:List fG)->PR n x e=some r->Is n x e r
 | 0,_,_,_,h=>by cases h
 | _+1,_,[],_,h=>by cases h
 | n+1,x,t::e,r,h=>by
  unfold PR at h;refine⟨t,e,rfl,?_⟩;by_cases d:CO t.2=true
  ·rw[if_pos d]at h;by_cases g:x.1=(4,0,⟨#[]⟩)
   ·rw[if_pos g]at h;obtain⟨m,i,a⟩:=bu.1 h;cases m with
    | nil=>cases a
    | cons c m=>
     simp only at a;by_cases f:zi c.2=true
     ·rw[if_pos f]at a;obtain rfl:=aw a;exact ai ⟨d,g,c,Fe (uY n) x.2.2 i,f⟩
     ·rw[if_neg f]at a;cases a
   ·rw[if_neg g]at h;cases h
  ·rw[if_neg d]at h;by_cases b:fE t.2=true/\x.1=lk t.2/\x.2.2.length=0
   ·rw[if_pos b]at h;exact ah ⟨by simpa using d,b.1,b.2.1,bE b.2.2,(aw h).symm⟩
   ·rw[if_neg b]at h;cases h
def oF(s:ByteArray)(n:Nat)(y:Tm n):Prop:=s.size<=2048/\CN s.size (jQ s 0) 0=none/\Is n y (jQ s 0) []
theorem BN{s:ByteArray}{n:Nat}{y:Tm n}(i:oF s n y)(u:bz n y=0)(w:World):ak 39 #[af s] w λe w'=>∃(m:Nat)(x:Tm (m+1)),e=.returned (.tuple #[.agg #[ab x.1.1,ab x.1.2.1,af x.1.2.2,ae x.2.1.1 x.2.2.length x.2.1.2],ab 0,ab 0])/\Hid (ax (m+1) x n y=true/\In w'.heap.size w' (m+1) x/\ch (λq=>w.heap.size<=q) (m+1) x/\aj w w'):=by
 obtain⟨j,o,p⟩:=i;refine(G9 s w (az j (by unfold maxLen;omega))).mono ?_;rintro e w' ⟨k,E,t,B,l,c,pos,C,rfl,h⟩;obtain⟨z,r⟩:=h;rcases z with⟨a,_⟩|⟨D,_,a,_⟩|⟨_,_,m,x,A,f,v,rfl,rfl,b⟩
 ·omega
 ·rw[o]at a;cases a
 ·have g:=(Is.one m n x y _ _ _ A p).1;have d:bz m x=0:=by
   rw[Hq m n x y g];exact u
  rcases b with⟨a,_⟩|⟨_,b⟩
  ·exact absurd d a
  ·cases m with
   | zero=>exact f.elim
   | succ m=>
    rw[d,b];exact⟨m,x,rfl,g,f,v,r⟩
def K8:ByteArray:=⟨#[40,99,111,100,101,32,40,98,101,104,32,99,111,117,110,116,32,40,111,110,32,36,48,32,40,117,112,32,36,49,41,32,40,41,32,40,97,100,100,32,36,48,32,36,49,41,41,32,40,111,110,32,36,48,32,40,97,115,107,32,36,49,41,32,40,40,115,101,110,100,32,36,49,32,40,104,97,118,101,32,36,48,41,41,41,32,36,48,41,32,40,111,110,32,95,32,102,111,114,107,32,40,40,115,112,97,119,110,32,99,111,117,110,116,32,48,32,36,48,41,32,40,108,105,110,107,32,36,48,41,32,40,115,101,110,100,32,36,48,32,40,117,112,32,55,41,41,41,32,49,41,32,40,111,110,32,95,32,115,116,111,112,32,40,40,115,116,111,112,41,41,32,48,41,32,40,111,110,32,95,32,98,97,100,32,40,41,32,40,97,100,100,32,97,32,97,41,41,41,41]⟩
def PW:ByteArray:=⟨#[40,117,112,32,51,41]⟩
def OC:ByteArray:=⟨#[102,111,114,107]⟩
def Ph:ByteArray:=⟨#[98,97,100]⟩
theorem M3:oF K8 7 (bW 1 fM):=⟨by decide,by kernel_rfl,uY _ _ _ _ (by kernel_rfl)⟩
theorem Pj:oF PW 13 vu:=⟨by decide,by kernel_rfl,uY _ _ _ _ (by kernel_rfl)⟩
theorem M4:oF OC 13 (bf tz 12):=⟨by decide,by kernel_rfl,uY _ _ _ _ (by kernel_rfl)⟩
theorem OD:oF Ph 13 (bf Cz 12):=⟨by decide,by kernel_rfl,uY _ _ _ _ (by kernel_rfl)⟩
theorem qF:bz 7 (bW 1 fM)=0/\bz 13 vu=0/\bz 13 (bf tz 12)=0/\bz 13 (bf Cz 12)=0:=⟨by kernel_rfl,by kernel_rfl,by kernel_rfl,by kernel_rfl⟩
def um(base:Nat)(a:Option Addr)(d:List (ByteArray×Int×Int×Tc))(w:World):Prop:=
 (d=[]\/∃c,a=some ⟨c,0,none⟩/\base<=c/\c<w.heap.size/\∀e b,d[e]?=some b->∀(t:Nat)(f:Value),(IK b)[t]?=some f->w.cell? ⟨c,e*7+t,none⟩=some f)/\∀b∈d,(In w.heap.size w 13 b.2.2.2/\ch (λg=>base<=g) 13 b.2.2.2)/\wG b.2.2.2
def EI(a:Option Addr)(L c:Nat):Prop:=(a=none/\L=0/\c=0)\/((∃g,a=some ⟨g,0,none⟩)/\L<=c)
def Lv(e:ByteArray×Int×Int×Tc):ByteArray×Int×Int×Tc:=(e.1,e.2.1,e.2.2.1,cn 13 e.2.2.2)
theorem um.kee{base:Nat}{a:Option Addr}{j:List (ByteArray×Int×Int×Tc)}{w w':World}(e:um base a j w){S:Nat->Prop}(i:bt S w w')(l:∀q,base<=q->q<w.heap.size->¬S q):um base a j w':=by
 refine⟨?_,λb d=>?_⟩
 ·rcases e.1 with c|⟨g,c,k,h,m⟩
  ·exact ah c
  ·refine ai ⟨g,c,k,aR h i.size,λo b d t p n=>?_⟩;rw[<-m o b d t p n];simp only[World.cell?,i.block g h (l g k h)]
 ·have c:=eS i (D:=λq=>base<=q/\q<w.heap.size) (λq f=>l q f.1 f.2) ⟨(e.2 b d).1.1,In.offB (e.2 b d).1.2 (e.2 b d).1.1⟩;exact⟨⟨c.1,c.2.mono λq f=>f.1⟩,(e.2 b d).2⟩
theorem F7(xa:Option Addr)(xc:Nat)(w:World):OR 0 0 ⟨#[]⟩ xa 0 xc tA w:=λW h=>by
 refine(sn 12 0 0 ⟨#[]⟩ xa 0 xc [] W (by decide) λw1 c=>?_).mono ?_
 ·refine(lH xa xc w1).mono ?_;rintro e w' ⟨rfl,rfl⟩;exact⟨none,0,[],rfl,ao _ _,rfl,am _,aH _,rfl,ah rfl⟩
 ·rintro e w' ⟨a,b,l,rfl,H⟩;obtain⟨c,d,g,f,_⟩:=H;obtain rfl:l=[]:=bE d;exact⟨0,0,⟨#[]⟩,a,0,b,rfl,c,((0,0,⟨#[]⟩),(a,b),[]),⟨rfl,rfl,rfl⟩,⟨⟨⟨show dx 0 by unfold dx;decide,show dx 0 by unfold dx;decide,show (0:Nat)<=maxLen from aH _,aH _,f⟩,ah rfl⟩,ah rfl⟩,rfl,ai ⟨rfl,rfl⟩⟩
theorem N3{x:Tc}{w:World}(d:In w.heap.size w 13 x)(a:wG x):OR x.1.1 x.1.2.1 x.1.2.2 x.2.1.1 x.2.2.length x.2.1.2 (cn 13 x) w:=by
 rcases a with a|⟨b,c⟩
 ·exact ku d a
 ·obtain⟨⟨g,h,i⟩,⟨e,f⟩,j⟩:=x;simp only[eh]at b c;obtain⟨rfl,rfl,rfl⟩:=b;subst c;exact F7 e f w
theorem Mc(l:List (ByteArray×Int×Int×Tc)):∀u∈l.flatMap IK,u.oneCell'=true:=λu b=>by
 obtain⟨e,_,a⟩:=jI.1 b;simp only[IK,cm,gA,gE]at a;rcases a with rfl|rfl|rfl|rfl|rfl|rfl|rfl<;>rfl
section
variable {p:jY} {s:Sy} {d:fT} {w:World}
theorem bj.eventsF(B:bj p s d w)(a6:d.es.length<=100000):ak 29 #[aC p.b,ab 0] w λe w'=>∃a c,e=.returned (ae a d.es.length c)/\Hid (aj w w'/\EI a d.es.length c/\∃an,an.length=d.es.length/\an.map Lv=s.evs/\um w.heap.size a an w'):=by
 obtain⟨H,D,av,aU,ay⟩:∃H D,d.ev=ae H d.es.length D/\d.es.length<=D/\(H=none/\d.es.length=0/\D=0\/∃g,H=some ⟨g,0,none⟩):=by
  rcases B.evr.1.2 with⟨e,Q⟩|⟨g,c,aq,e,_,_,k,_⟩
  ·exact⟨none,0,by rw[e,Q],by omega,ah ⟨rfl,Q,rfl⟩⟩
  ·exact⟨_,c,e,k,ai ⟨g,rfl⟩⟩
 obtain⟨q,R⟩:∃q:Nat->ByteArray×Int×Int×Tc,∀h,h<d.es.length->d.es[h]?=some (q h):=⟨λh=>d.es.getD h (⟨#[]⟩,0,0,tA),λh C=>by
  simp only[mR,aI C]
  rfl⟩
 have aV:∀j,aj w j->∀h,h<d.es.length->In j.heap.size j 13 (q h).2.2.2/\wG (q h).2.2.2:=λj z h C=>by
  have:=(B.later z).evt.2 _ (aJ (R h C));exact⟨this.1.1,this.2⟩
 have X:=B.evr.1;rw[av]at X;have aF:w.cell? ⟨p.b,6,none⟩=some (ae H d.es.length D):=by
  have E:=ag B.box 6;simp only[dX,cQ,dg]at E;rw[av]at E;exact E
 refine(JB p.b H d.es.length D (λh=>(q h).2.2.2.1.1) (λh=>(q h).2.2.2.1.2.1) (λh=>(q h).2.2.2.1.2.2) (λh=>(q h).2.2.2.2.1.1) (λh=>(q h).2.2.2.2.2.length) (λh=>(q h).2.2.2.2.1.2) w
  (λa c h j=>aj w j/\EI a d.es.length c/\(d.es.length=0\/∃(g:Nat)(f:Nat->ByteArray×Int×Int×Tc),a=some ⟨g,0,none⟩/\(w.heap.size<=g/\g<j.heap.size)/\(∀o,j.frozen? ⟨g,o,none⟩=false)/\(∀i,i<d.es.length->∀(t:Nat)(n:Value),(IK (f i))[t]?=some n->j.cell? ⟨g,i*7+t,none⟩=some n)/\(∀i,i<h->(Lv (f i)=Lv (q i)/\wG (f i).2.2.2)/\In j.heap.size j 13 (f i).2.2.2/\ch (λr=>w.heap.size<=r/\r≠g) 13 (f i).2.2.2)/\∀i,h<=i->i<d.es.length->f i=q i)) B.lo.2 (by omega) aU ay aF (λj z=>?_) (λa c h j C L=>?_)).mono ?_
 ·rcases ay with⟨rfl,Q,rfl⟩|⟨g,rfl⟩
  ·rw[Q];refine(AL 0 j).mono ?_;rintro e w' ⟨rfl,rfl⟩;exact⟨none,0,rfl,ao _ _,z,ah ⟨rfl,rfl,rfl⟩,ah rfl⟩
  ·have x:=X.lt g rfl;refine(AM (d.es.flatMap IK) g d.es.length D j X.1 (Mc _) (by omega) λbd A h n m=>?_).mono ?_
   ·have E:=World.ownsRow.cells X (g:=g) rfl h n m;have aK:=z.trans (A.mono z.size);exact(aK.cell (p:=(⟨g,0,none⟩:Addr).add h) (by simp only[Addr.add];split<;>exact x.2)).trans E
   ·rintro e w' ⟨bc,rfl,I⟩;obtain⟨y,F⟩:=I.out;obtain⟨a,c,aG,ar,au⟩:=rI F (by decide) λP=>rfl;subst aG;have N:EI a d.es.length c:=by
     rcases F.2 with⟨v,Y⟩|⟨J,a4,aq,v,_,_,Y,_⟩
     ·injection v with v aA aB;exact ah ⟨v,Y,aB⟩
     ·injection v with v aA aB;exact ai ⟨⟨J,v⟩,by omega⟩
    refine⟨a,c,rfl,y,z.trans (y.mono z.size),N,?_⟩;by_cases K:d.es.length=0
    ·exact ah K
    ·obtain⟨J,v,Y,aA⟩:=au 0 _ (R 0 (by omega));obtain⟨aq,aL⟩:=ew F J (ar _ v);have a7:=z.size;refine ai ⟨J,q,v,⟨by have:=(F.lt J (ar _ v)).1;omega,Y⟩,λo=>by simp[World.frozen?,aL],λi l t n m=>?_,λi l=>by omega,λ_ _ _=>rfl⟩;obtain⟨a5,G,bb,a1⟩:=au i _ (R i l);rw[v]at G;injection G with G;injection G with G;subst G;exact a1 t n m
 ·obtain⟨A,N,L⟩:=L;rcases L with K|⟨g,f,rfl,x,az,T,S,M⟩
  ·omega
  have aM:=M h (am _) C;have k:=T h C;rw[aM]at k;refine⟨g,rfl,k 3 _ rfl,k 4 _ rfl,k 5 _ rfl,k 6 _ rfl,?_⟩;obtain⟨a2,a3⟩:=aV j A h C;refine(N3 a2 a3 j (ao _ _)).mono ?_;rintro e w' ⟨y0,y1,y2,ya,yl,yc,rfl,I⟩;obtain⟨y,aD,⟨f1,f2,f3⟩,⟨F,aY⟩,aZ,a0⟩:=I.out;have u:∀{o:Nat}{n:Value},j.cell? ⟨g,o,none⟩=some n->w'.cell? ⟨g,o,none⟩=some n:=λ{o n} r=>(y.cell (p:=⟨g,o,none⟩) x.2).trans r;have O:∀o,w'.frozen? ⟨g,o,none⟩=false:=λo=>(y.frozen (p:=⟨g,o,none⟩) x.2).trans (az o);refine⟨y0,y1,y2,ya,yl,yc,rfl,⟨O _,O _,O _,O _⟩,⟨u (k 3 _ rfl),u (k 4 _ rfl),u (k 5 _ rfl),u (k 6 _ rfl)⟩,?_⟩;have aO:=oh w' g (h*7+3) (ab y0) (ab y1) (af y2) (ae ya yl yc);have ba:=br (w:=w') (g:=g) (o:=h*7+3) (ab y0) (ab y1) (af y2) (ae ya yl yc);have V:=xN (ab y0) (ab y1) (af y2) (ae ya yl yc) ⟨u (k 3 _ rfl),u (k 4 _ rfl),u (k 5 _ rfl),u (k 6 _ rfl)⟩;have U:=λo (aQ:o<h*7+3\/h*7+3+4<=o)=>BP (w:=w') (g:=g) (v0:=ab y0) (v1:=ab y1) (v2:=af y2) (v3:=ae ya yl yc) o aQ;have aN:=λo=>(tm (w:=w') (g:=g) (o:=h*7+3) (v0:=ab y0) (v1:=ab y1) (v2:=af y2) (v3:=ae ya yl yc) o).trans (O o);have aR:aj w (dd w' g (h*7+3) (ab y0) (ab y1) (af y2) (ae ya yl yc)):=dJ (A.trans (y.mono A.size)) x.1;generalize dd w' g (h*7+3) (ab y0) (ab y1) (af y2) (ae ya yl yc)=ap at*;have a8:=y.size;have a9:=A.size;have ax:∀{Z:Tc},In w'.heap.size w' 13 Z->ch (λr=>w.heap.size<=r/\r≠g) 13 Z->In ap.heap.size ap 13 Z/\ch (λr=>w.heap.size<=r/\r≠g) 13 Z:=λaW aX=>eS aO (λr P aE=>P.2 aE) ⟨aW,aX⟩;refine⟨aR,N,ai ⟨g,λi=>if i=h then ((q h).1,(q h).2.1,(q h).2.2.1,aD)else f i,rfl,⟨x.1,by omega⟩,aN,λi l t n m=>?_,λi l=>?_,λi E aH=>?_⟩⟩
  ·have aT:t<7:=by
     have:=(aS.1 m).1;simpa [IK]using this
   by_cases e:i=h
   ·subst e;simp only[cT]at m;obtain⟨⟨be,bf,aE⟩,⟨bg,bh⟩,bi⟩:=aD;simp only[eh]at f1 f2;obtain⟨rfl,rfl,rfl⟩:=f1;obtain⟨rfl,rfl⟩:=f2;subst f3
    match t,aT with
    | 0,_=>exact(U _ (by omega)).trans (u (k 0 n m))
    | 1,_=>exact(U _ (by omega)).trans (u (k 1 n m))
    | 2,_=>exact(U _ (by omega)).trans (u (k 2 n m))
    | 3,_=>exact V.1.trans m
    | 4,_=>exact V.2.1.trans m
    | 5,_=>exact V.2.2.1.trans m
    | 6,_=>exact V.2.2.2.trans m
   ·simp only[if_neg e]at m;exact(U _ (by omega)).trans (u (T i l t n m))
  ·by_cases e:i=h
   ·simp only[e,cT];have:=ax F (aY.mono λr P=>⟨by omega,by omega⟩);refine⟨⟨?_,a0⟩,this.1,this.2⟩;unfold Lv;rw[aZ]
   ·simp only[if_neg e];obtain⟨aa,ad,al⟩:=S i (by omega);have:=ax ((ad.below y).mono y.size) al;exact⟨aa,this.1,this.2⟩
  ·simp only[if_neg (show¬i=h by omega)];exact M i (by omega) aH
 ·rintro e w' ⟨a,c,rfl,I⟩;obtain⟨A,N,L⟩:=I;refine⟨a,c,rfl,A,N,?_⟩;rcases L with K|⟨g,f,rfl,x,az,T,S,M⟩
  ·have aP:d.es=[]:=bE K;refine⟨[],by rw[K];rfl,?_,ah rfl,λe M=>by cases M⟩;rw[<-B.evt.1,aP];rfl
  ·refine⟨(List.range d.es.length).map f,by simp,?_,ai ⟨g,rfl,x.1,x.2,λi e l t n m=>?_⟩,λe l=>?_⟩
   ·rw[<-B.evt.1];refine List.ext_getElem? λi=>?_;by_cases l:i<d.es.length
    ·rw[dt,dt,dt,List.getElem?_range l,R i l];exact congrArg some (S i l).1.1
    ·rw[eI (by simpa using Nat.le_of_not_lt l),eI (by simpa using Nat.le_of_not_lt l)]
   ·have W:i<d.es.length:=by
      have:=(aS.1 l).1;simpa using this
    rw[dt,List.getElem?_range W]at l;obtain rfl:=aw l;exact T i W t n m
   ·obtain⟨i,W,rfl⟩:=b9.1 l;obtain⟨aa,ad,al⟩:=S i (List.mem_range.1 W);exact⟨⟨ad,al.mono λr P=>P.1⟩,aa.2⟩
theorem bj.events(h:bj p s d w)(i:d.es.length<=100000):ak 10 #[aC p.b] w λe w'=>∃a c,e=.returned (ae a d.es.length c)/\Hid (aj w w'/\EI a d.es.length c/\∃f,f.length=d.es.length/\f.map Lv=s.evs/\um w.heap.size a f w'):=by
 have g:=ap (h.eventsF i);clear h i;generalize d.es.length=k at*;go_enter func10,ntmps10;go_wp2_with fail;refine g.mono ?_;rintro e l ⟨a,c,rfl,j⟩;clear g;go_wp2_with fail
 go_ret
 exact⟨a,c,rfl,j⟩
end
theorem G0(u v g k h l:Int)(nm s1 m:ByteArray)(a b:Option Addr)(i c j d:Nat)(w:World)(n:Hid (∀W,aj w W->ak 16 #[.agg #[ab g,ab k,af s1,ae a i c],.agg #[ab h,ab l,af m,ae b j d]] W λe w'=>e=.returned (.bool true)/\aj W w')):ak 28 #[.agg #[af nm,ab u,ab v,ab g,ab k,af s1,ae a i c],.agg #[af nm,ab u,ab v,ab h,ab l,af m,ae b j d]] w λe w'=>e=.returned (.bool true)/\aj w w':=by
 have p:(u==u)=true:=by simp
 have q:(v==v)=true:=by simp
 have r:(nm.toList==nm.toList)=true:=by simp
 go_enter func28,ntmps28;go_wp2_with fail;refine(n _ (((ao _ _).alloc (am _) _).alloc (by simp) _)).mono ?_;rintro e o ⟨rfl,f⟩;have HB:Hid (aj w o):=(((ao _ _).alloc (am _) _).alloc (by simp) _).trans (f.mono (by simp;omega));clear f;go_wp2_with fail
 go_ret
 exact⟨rfl,HB⟩
theorem Jz(a b:Option Addr)(c d:Nat)(len:Nat)(w:World)(V:len<=9223372036854775807)(O:Hid (∀j,j<len->∃(g h:Nat)(u v q x r y:Int)(nm s1 z:ByteArray)(l m:Option Addr)(s n t o:Nat),(a=some ⟨g,0,none⟩/\b=some ⟨h,0,none⟩/\g<w.heap.size/\h<w.heap.size)/\Hid ((w.cell? ⟨g,j*7,none⟩=some (af nm)/\w.cell? ⟨g,j*7+1,none⟩=some (ab u)/\w.cell? ⟨g,j*7+2,none⟩=some (ab v)/\w.cell? ⟨g,j*7+3,none⟩=some (ab q)/\w.cell? ⟨g,j*7+4,none⟩=some (ab x)/\w.cell? ⟨g,j*7+5,none⟩=some (af s1)/\w.cell? ⟨g,j*7+6,none⟩=some (ae l s n))/\w.cell? ⟨h,j*7,none⟩=some (af nm)/\w.cell? ⟨h,j*7+1,none⟩=some (ab u)/\w.cell? ⟨h,j*7+2,none⟩=some (ab v)/\w.cell? ⟨h,j*7+3,none⟩=some (ab r)/\w.cell? ⟨h,j*7+4,none⟩=some (ab y)/\w.cell? ⟨h,j*7+5,none⟩=some (af z)/\w.cell? ⟨h,j*7+6,none⟩=some (ae m t o))/\Hid (∀W,aj w W->ak 28 #[.agg #[af nm,ab u,ab v,ab q,ab x,af s1,ae l s n],.agg #[af nm,ab u,ab v,ab r,ab y,af z,ae m t o]] W λe w'=>e=.returned (.bool true)/\aj W w'))):ak 27 #[ae a len c,ae b len d,.func (Fn.func 28) #[] #[]] w λe w'=>e=.returned (.bool true)/\aj w w':=by
 go_enter func27,ntmps27;go_wp2_with fail;go_loopw [17] (λp wr=>∃j:Nat,j<=len/\p=ab j/\Hid (aj w wr)) (λp _=>len-(intOf p).toNat)
 case atStart=>exact⟨0,aH _,rfl,ao _ _⟩
 case round=>
  obtain⟨j,U,rfl,HB⟩:=hrel;by_cases Q:j<len
  ·obtain⟨g,h,u,v,q,x,r,y,nm,s1,z,l,m,s,n,t,o,⟨rfl,rfl,i,k⟩,B,P⟩:=O j Q;obtain⟨⟨C,D,E,F,G,H,I⟩,y0,y1,y2,J,K,L,M⟩:=B.out;have f:=aq HB;replace C:=(f _ _ i).trans C;replace y0:=(f _ _ k).trans y0;replace D:=(f _ _ i).trans D;replace y1:=(f _ _ k).trans y1;replace E:=(f _ _ i).trans E;replace y2:=(f _ _ k).trans y2;replace F:=(f _ _ i).trans F;replace J:=(f _ _ k).trans J;replace G:=(f _ _ i).trans G;replace K:=(f _ _ k).trans K;replace H:=(f _ _ i).trans H;replace L:=(f _ _ k).trans L;replace I:=(f _ _ i).trans I;replace M:=(f _ _ k).trans M;clear f B;have S:g<wr.heap.size:=by have:=HB.size;omega
   have T:h<wr.heap.size:=by have:=HB.size;omega
   have X:(0:Int)<=(j:Int):=by omega
   have Y:(j:Int)<(len:Int):=by omega
   go_wp2_with fail;refine(P _ (HB.trans (((((ao _ _).alloc (am _) _).alloc (by simp) _)).mono HB.size))).mono ?_;rintro e R ⟨rfl,A⟩;have N:Hid (aj w R):=(HB.trans ((((ao _ _).alloc (am _) _).alloc (by simp) _).mono HB.size)).trans (A.mono (by have:=HB.size;simp;omega));clear A;go_wp2_with fail;go_roundw
   case rel=>exact⟨j+1,by omega,by go_num,N⟩
   case measure=>simp[intOf];omega
  ·obtain rfl:j=len:=by omega
   go_wp2_with fail
   go_ret
   exact⟨rfl,HB⟩
theorem Md{x y:Tc}(g:wG x)(a:wG y)(b:cn 13 x=cn 13 y):ax 13 x 13 y=true:=by
 have j:∀{f:Tc},f.1=(0,0,⟨#[]⟩)->f.2.2=[]->cn 13 f=tA:=λ{f} c h=>by
  obtain⟨⟨m,d,e⟩,⟨n,o⟩,p⟩:=f;simp only[eh]at c h;obtain⟨rfl,rfl,rfl⟩:=c;subst h;rfl
 have i:¬bz 13 tA=0:=by
  intro k;have l:aD ⟨13,tA⟩:=aM.2 (bB.1 k).1;have:=l _ mT;simp[cE,tA]at this
 rcases g with g|⟨d,e⟩
 ·rcases a with a|⟨y1,y2⟩
  ·have c:=dw _ _ _ _ (ei g);rw[b]at c;exact bH _ _ _ _ _ _ c (ei a)
  ·rw[j y1 y2]at b;exact absurd (b▸nY g) i
 ·rcases a with a|⟨y1,y2⟩
  ·rw[j d e]at b;exact absurd (b▸nY a) i
  ·obtain⟨⟨m,d,e⟩,⟨n,o⟩,p⟩:=x;obtain⟨⟨q,r,s⟩,⟨t,u⟩,v⟩:=y;simp only at d e y1 y2;subst e y2;exact dc (by rw[d,y1]) rfl
theorem D6(base B:Nat)(a b:Option Addr)(c d len:Nat)(m n:List (ByteArray×Int×Int×Tc))(w:World)(r:um base a m w)(s:um B b n w)(N:len<=m.length/\n.length=len)(K:len<=9223372036854775807)(u:(m.map Lv).take len=n.map Lv):ak 9 #[ae a len c,ae b len d] w λe w'=>e=.returned (.bool true)/\aj w w':=by
 have t:Hid (ak 27 #[ae a len c,ae b len d,.func (Fn.func 28) #[] #[]] w λe w'=>e=.returned (.bool true)/\aj w w'):=by
  refine Jz a b c d len w K λj M=>?_;obtain⟨e,h⟩:∃e,m[j]?=some e:=⟨_,aI (by omega)⟩;obtain⟨f,i⟩:∃e,n[j]?=some e:=⟨_,aI (by omega)⟩;have q:Lv e=Lv f:=by
   have v:=congrArg (λl=>l[j]?) u;simp only[jk,if_pos M,dt,h,i,mZ]at v;exact aw v
  unfold Lv at q;simp only[eh]at q;obtain⟨T,U,V,W⟩:=q;rcases r.1 with o|⟨I,C,_,E,G⟩
  ·rw[o]at h;simp at h
  rcases s.1 with o|⟨J,D,_,F,H⟩
  ·rw[o]at i;simp at i
  have k:=G j e h;have g:=H j f i;obtain⟨⟨P,X⟩,R⟩:=r.2 e (aJ h);obtain⟨⟨Q,Y⟩,S⟩:=s.2 f (aJ i);have O:=Md R S W;refine⟨I,J,e.2.1,e.2.2.1,e.2.2.2.1.1,e.2.2.2.1.2.1,f.2.2.2.1.1,f.2.2.2.1.2.1,e.1,e.2.2.2.1.2.2,f.2.2.2.1.2.2,e.2.2.2.2.1.1,f.2.2.2.2.1.1,e.2.2.2.2.2.length,e.2.2.2.2.1.2,f.2.2.2.2.2.length,f.2.2.2.2.1.2,⟨C,D,E,F⟩,⟨⟨k 0 _ rfl,k 1 _ rfl,k 2 _ rfl,k 3 _ rfl,k 4 _ rfl,k 5 _ rfl,k 6 _ rfl⟩,?_,?_,?_,g 3 _ rfl,g 4 _ rfl,g 5 _ rfl,g 6 _ rfl⟩,λz x=>?_⟩
  ·rw[T];exact g 0 _ rfl
  ·rw[U];exact g 1 _ rfl
  ·rw[V];exact g 2 _ rfl
  ·refine G0 _ _ _ _ _ _ _ _ _ _ _ _ _ _ _ z λA L=>?_;have p:=x.trans (L.mono x.size);have:=vM 13 e.2.2.2 13 f.2.2.2 w.heap.size A (P.below p) (Q.below p) p.size;rw[O]at this;exact this
 clear r s N u;go_enter func9,ntmps9;go_wp2_with fail;refine t.mono ?_;rintro e Z ⟨rfl,y⟩;have HB:=ap y;clear y t;go_wp2_with fail
 go_ret
 exact⟨rfl,HB⟩
theorem Ch(b:Nat)(name:ByteArray)(w:World)(d:w.cell? ⟨b,0,none⟩=some (af name))(c:Hid (∀w1:World,ak 63 #[af name] w1 λe w'=>e=.returned (af name)/\aj w1 w')):ak 33 #[aC b] w λe w'=>e=.returned (af name)/\aj w w':=by
 go_enter func33,ntmps33;go_wp2_with fail;refine(c _).mono ?_;rintro e w1 ⟨rfl,a⟩;have HB:=ap a;clear a;go_wp2_with fail
 go_ret
 exact⟨rfl,HB⟩
theorem P1.sname{b a:Nat}{name:ByteArray}{room:Int}{cs:Tc}{c:List Tc}{k:Nat}{M:Nat->Prop}{w:World}(d:P1 b a name room cs c k M w)(h:name.size<=2048):ak 33 #[aC a] w λe w'=>e=.returned (af name)/\aj w w':=by
 obtain⟨l,s,p,x,r,t,v,n,o,j,f,_⟩:=d;obtain⟨u,m,q,g,_⟩:=f.heap.box;exact Ch a name w (PL.cells g).1 λi=>dR name i h
theorem P1.mails2{v u:Nat}{name:ByteArray}{room:Int}{cs:Tc}{g:List Tc}{k:Nat}{M:Nat->Prop}{w:World}(C:P1 v u name room cs g k M w)(I:k<=50000)(D:g.length<=999):ak 35 #[aC u] w λe w'=>∃(ys:List Tc)(a:Option Addr)(c:Nat),e=.returned (ae a g.length c)/\Hid (ys.length=g.length/\aj w w'/\fH w'.heap.size w' 13 ys a/\ys.map (cn 13)=g/\(∀b,(Value.slice a g.length c).ownBlock=some b->w.heap.size<=b)/\∀y∈ys,bz 13 y=0/\ch (λq=>w.heap.size<=q) 13 y):=by
 obtain⟨Q,Y,l,ab,X,Z,aa,V,W,O,s,⟨rfl,rfl⟩,T,U⟩:=C;have G:∀y∈l,bz 13 y=0:=λy d=>((s.front (N:=12)).2.2.1 y (bM _ d)).1;have S:l.length<=999:=by simpa using D
 refine(s.mails (N:=12) I (by omega)).mono ?_;rintro e w' ⟨ys,z,a,c,rfl,x⟩;obtain⟨t,j,p⟩:=x;have E:z=(l.map (cn 13)).length:=by
  rw[<-t,ee];exact cI _ _ _ p
 subst E;obtain⟨P,R,m,_,n,_⟩:=fl.lay (dY 13) (f:=iq 13) (λ_=>rfl) j;injection m with m _ _;subst m;refine⟨ys,a,c,rfl,t,j.1,?_,PO ys l p,λb F=>(j.2.1.lt b F).1,λy d=>⟨?_,(j.2.2 y d).2.mono λq J=>by rcases J.1 with r|r<;>omega⟩⟩
 ·rcases n with n|⟨B,o,A,H,h⟩
  ·exact ah n
  ·exact ai ⟨B,o,A,H,λi y d=>⟨⟨(h i y d).1 0 _ rfl,(h i y d).1 1 _ rfl,(h i y d).1 2 _ rfl,(h i y d).1 3 _ rfl⟩,(h i y d).2⟩⟩
 ·obtain⟨r,L,K⟩:=sK _ _ _ p y d;exact(bQ K).trans (G r L)
section
variable {p:jY} {s:Sy} {d:fT} {w:World}
end
theorem Es(s:ByteArray)(r:s=⟨#[40,99,111,100,101,32,40,98,101,104,32,99,111,117,110,116,32,40,111,110,32,36,48,32,40,117,112,32,36,49,41,32,40,41,32,40,97,100,100,32,36,48,32,36,49,41,41,32,40,111,110,32,36,48,32,40,97,115,107,32,36,49,41,32,40,40,115,101,110,100,32,36,49,32,40,104,97,118,101,32,36,48,41,41,41,32,36,48,41,32,40,111,110,32,95,32,102,111,114,107,32,40,40,115,112,97,119,110,32,99,111,117,110,116,32,48,32,36,48,41,32,40,108,105,110,107,32,36,48,41,32,40,115,101,110,100,32,36,48,32,40,117,112,32,55,41,41,41,32,49,41,32,40,111,110,32,95,32,115,116,111,112,32,40,40,115,116,111,112,41,41,32,48,41,32,40,111,110,32,95,32,98,97,100,32,40,41,32,40,97,100,100,32,97,32,97,41,41,41,41]⟩)(w:World)(o:Int->Int->ByteArray->Option Addr->Nat->Nat->World->Prop)(i:Option Addr->Nat->Nat->World->Prop)(m:Hid (ak 39 #[af s] w λe w'=>∃y0 y1 y2 ya yl yc,e=.returned (.tuple #[.agg #[ab y0,ab y1,af y2,ae ya yl yc],ab 0,ab 0])/\Hid (o y0 y1 y2 ya yl yc w')))(k:Hid (∀y0 y1 y2 ya yl yc W n,o y0 y1 y2 ya yl yc W->aj W n->ak 38 #[.agg #[ab y0,ab y1,af y2,ae ya yl yc]] n λe w'=>∃a l c,e=.returned (.tuple #[ae a l c,ab 0])/\Hid (i a l c w'))):ak 19 #[] w λe w'=>∃a l c,e=.returned (ae a l c)/\Hid (i a l c w'):=by
 subst r;go_enter func19,ntmps19;go_wp2_with fail;refine m.mono ?_;rintro e h ⟨y0,y1,y2,ya,yl,yc,rfl,j⟩;clear m;go_upto_region 2 with fail;generalize g:h.alloc _=b;have q:=ap (k _ _ _ _ _ _ _ b j (by rw[<-g];exact(ao _ _).alloc (am _) _));have d:b.heap[h.heap.size]?=some (.cells #[ab y0,ab y1,af y2,ae ya yl yc] 31):=by
  rw[<-g];exact aA _ _
 generalize h.heap.size=f at*;have t:b.cell? ⟨f,0,none⟩=some (ab y0):=ag d 0;have u:b.cell? ⟨f,1,none⟩=some (ab y1):=ag d 1;have v:b.cell? ⟨f,2,none⟩=some (af y2):=ag d 2;have x:b.cell? ⟨f,3,none⟩=some (ae ya yl yc):=ag d 3;clear g d k j;go_wp2_with fail;refine q.mono ?_;rintro e y ⟨a,l,c,rfl,p⟩;go_wp2_with fail
 go_ret
 exact⟨a,l,c,rfl,p⟩
theorem Il(u:Int)(s:ByteArray)(w:World)(r:Int->Int->ByteArray->Option Addr->Nat->Nat->World->Prop)(C:Hid (∀W,aj w W->w.heap.size<W.heap.size->ak 39 #[af s] W λe w'=>∃y0 y1 y2 ya yl yc,e=.returned (.tuple #[.agg #[ab y0,ab y1,af y2,ae ya yl yc],ab 0,ab 0])/\Hid (aj W w'/\∀j,bt (λq=>q=w.heap.size) w' j->r y0 y1 y2 ya yl yc j))):ak 22 #[ab u,af s] w λe w'=>∃y0 y1 y2 ya yl yc,e=.returned (.agg #[ab 3,ab u,ab 0,ab y0,ab y1,af y2,ae ya yl yc])/\Hid (r y0 y1 y2 ya yl yc w'/\aj w w'):=by
 go_enter func22,ntmps22;go_upto_region 1 with fail;generalize A:w.alloc _=p;have n:aj w p:=by rw[<-A];exact(ao _ _).alloc (am _) _
 have y:p.heap[w.heap.size]?=some (.cells #[ab 0,ab 0,ab 0,ab 0,ab 0,af .empty,ae none 0 0] 33):=by
  rw[<-A];exact aA _ _
 have z:=(aF.1 y).1;have D:=ap (C p n z);clear A C;go_wp2_with fail;refine D.mono ?_;rintro e g ⟨y0,y1,y2,ya,yl,yc,rfl,h⟩;clear D;go_upto_region 2 with fail;generalize B:g.alloc _=d;have i:aj g d:=by rw[<-B];exact(ao _ _).alloc (am _) _
 have l:d.heap[g.heap.size]?=some (.cells #[ab y0,ab y1,af y2,ae ya yl yc] 31):=by
  rw[<-B];exact aA _ _
 have F:=h.1.size;have f:=(i.block w.heap.size (by omega)).trans ((h.1.block w.heap.size z).trans y);have N:w.heap.size≠g.heap.size:=by omega
 have HB:=ap (⟨n.trans ((h.1.trans (i.mono F)).mono n.size),h,aK i _⟩:aj w d/\Hid (aj p g/\∀j,bt (λq=>q=w.heap.size) g j->r y0 y1 y2 ya yl yc j)/\bt (λq=>q=w.heap.size) g d);generalize O:w.heap.size=a at*;generalize g.heap.size=q at*;have I:d.cell? ⟨q,0,none⟩=some (ab y0):=ag l 0;have J:d.cell? ⟨q,1,none⟩=some (ab y1):=ag l 1;have K:d.cell? ⟨q,2,none⟩=some (af y2):=ag l 2;have L:d.cell? ⟨q,3,none⟩=some (ae ya yl yc):=ag l 3;have d0:d.cell? ⟨a,0,none⟩=some (ab 0):=ag f 0;have d1:d.cell? ⟨a,1,none⟩=some (ab 0):=ag f 1;have d2:d.cell? ⟨a,2,none⟩=some (ab 0):=ag f 2;have d3:d.cell? ⟨a,3,none⟩=some (ab 0):=ag f 3;have d4:d.cell? ⟨a,4,none⟩=some (ab 0):=ag f 4;have d5:d.cell? ⟨a,5,none⟩=some (af .empty):=ag f 5;have d6:d.cell? ⟨a,6,none⟩=some (ae none 0 0):=ag f 6;have M:∀k,d.frozen? ⟨a,k,none⟩=false:=λk=>by simp[World.frozen?,f]
 clear B i l f h y z F n;go_wp2_with fail;obtain⟨o,h,i⟩:=HB;have x:bt (λb=>b=a) d (((((((d.setCell ⟨a,0,none⟩ (ab 3)).setCell ⟨a,1,none⟩ (ab u)).setCell ⟨a,2,none⟩ (ab 0)).setCell ⟨a,3,none⟩ (ab y0)).setCell ⟨a,4,none⟩ (ab y1)).setCell ⟨a,5,none⟩ (af y2)).setCell ⟨a,6,none⟩ (ae ya yl yc)):=by
  have t:∀{E b c:World},bt (λq=>q=a) E b->bt (λq=>q=a) b c->bt (λq=>q=a) E c:=λG k=>G.trans k λ_ _ m=>m;exact t (t (t (t (t (t (bC _ _ _ _) (bC _ _ _ _)) (bC _ _ _ _)) (bC _ _ _ _)) (bC _ _ _ _)) (bC _ _ _ _)) (bC _ _ _ _)
 refine av (v:=.agg #[ab 3,ab u,ab 0,ab y0,ab y1,af y2,ae ya yl yc]) (by simp[results,results22,go_sem,d0,d1,d2,d3,d4,d5,d6]) rfl ⟨y0,y1,y2,ya,yl,yc,rfl,h.2 _ (i.trans x λ_ _ m=>m),?_⟩
 first|exact(o.trans (x.below (by have:=o.size;omega) λb H m=>by omega)).mono (by omega)|exact o.trans (x.below (by have:=o.size;omega) λb H m=>by omega)
theorem Ik(x:Nat)(g n c:Nat)(kd f h i k:Nat->Int)(l:Nat->ByteArray)(xa:Nat->Option Addr)(m xc:Nat->Nat)(w:World)(K:Nat->World->Prop)(I:n<=1000)(s:Hid (K 0 w))(o:Hid (∀j W,j<n->K j W->(W.cell? ⟨g,j*7,none⟩=some (ab (kd j))/\W.cell? ⟨g,j*7+1,none⟩=some (ab (f j))/\W.cell? ⟨g,j*7+2,none⟩=some (ab (h j))/\W.cell? ⟨g,j*7+3,none⟩=some (ab (i j))/\W.cell? ⟨g,j*7+4,none⟩=some (ab (k j))/\W.cell? ⟨g,j*7+5,none⟩=some (af (l j))/\W.cell? ⟨g,j*7+6,none⟩=some (ae (xa j) (m j) (xc j)))/\Hid (∀u,aj W u->ak 8 #[aC x,.agg #[ab (kd j),ab (f j),ab (h j),ab (i j),ab (k j),af (l j),ae (xa j) (m j) (xc j)]] u λe w'=>e=.returned (ab 0)/\Hid (K (j+1) w')))):ak 21 #[aC x,ae (some ⟨g,0,none⟩) n c] w λe w'=>e=.returned (.bool true)/\Hid (K n w'):=by
 go_enter func21,ntmps21;go_wp2_with fail;go_loopw [6,9] (λ_ r wr=>∃(j:Nat),j<=n/\r=ab j/\Hid (K j wr)) (λ_ r _=>n-(intOf r).toNat)
 case atStart=>exact⟨0,aH _,rfl,s⟩
 case round=>
 clear s;obtain⟨j,H,rfl,p⟩:=hrel;by_cases v:j<n
 ·obtain⟨⟨A,B,C,D,E,F,G⟩,t⟩:=o.out j _ v p;have J:(0:Int)<=(j:Int):=by omega
  have L:(j:Int)<(n:Int):=by omega
  clear o p;go_upto_region 4 with fail;generalize q:World.alloc _ _=a;have b:a.heap[wr.heap.size]?=some (.cells #[ab (kd j),ab (f j),ab (h j),ab (i j),ab (k j),af (l j),ae (xa j) (m j) (xc j)] 33):=by
   rw[<-q];exact aA _ _
  have z:=ap (t a (by rw[<-q];exact(ao _ _).alloc (am _) _));generalize wr.heap.size=d at*;have d0:a.cell? ⟨d,0,none⟩=some (ab (kd j)):=ag b 0;have d1:a.cell? ⟨d,1,none⟩=some (ab (f j)):=ag b 1;have d2:a.cell? ⟨d,2,none⟩=some (ab (h j)):=ag b 2;have d3:a.cell? ⟨d,3,none⟩=some (ab (i j)):=ag b 3;have d4:a.cell? ⟨d,4,none⟩=some (ab (k j)):=ag b 4;have d5:a.cell? ⟨d,5,none⟩=some (af (l j)):=ag b 5;have d6:a.cell? ⟨d,6,none⟩=some (ae (xa j) (m j) (xc j)):=ag b 6;clear q b t A B C D E F G;go_wp2_with fail;refine z.mono ?_;rintro e M ⟨rfl,y⟩;go_wp2_with fail;go_roundw
  case rel=>exact⟨j+1,by omega,by go_num,y⟩
  case measure=>simp[intOf];omega
 obtain rfl:j=n:=by omega
 clear o H v;go_wp2_with fail
 go_ret
 exact⟨rfl,p⟩
def yy(w:World)(a:Option Addr)(L c:Nat)(W:World):Prop:=∃(M:Nat)(q:List (Bh (M+1))),q.length=L/\aj w W/\(L<=c/\c<=maxLen)/\gh (M+1) W.heap.size W a q/\lP M q=0/\ax (M+6) (bW M q) 7 (bW 1 fM)=true
theorem Gt{n:Nat}{l:List (Bh (n+1))}(g:lP n l=0){m:Nat}{y0 y1:Int}{y2:ByteArray}{ya:Option Addr}{yl yc:Nat}{W:World}(o:∃x:Tm (m+1),(x.1=(y0,y1,y2)/\x.2.1=(ya,yc)/\x.2.2.length=yl)/\ax (m+1) x (n+6) (bW n l)=true/\In W.heap.size W (m+1) x):ak 38 #[.agg #[ab y0,ab y1,af y2,ae ya yl yc]] W λe w'=>∃a L c,e=.returned (.tuple #[ae a L c,ab 0])/\Hid (aj W w'/\∃q:List (Bh (m+1)),q.length=L/\(L<=c/\c<=maxLen)/\gh (m+1) w'.heap.size w' a q/\lP m q=0/\ax (m+6) (bW m q) (n+6) (bW n l)=true):=by
 obtain⟨⟨⟨w,y,z⟩,⟨A,B⟩,C⟩,⟨f1,f2,f3⟩,d,p⟩:=o;simp only[eh]at f1 f2;obtain⟨rfl,rfl,rfl⟩:=f1;obtain⟨rfl,rfl⟩:=f2;subst f3;have b:=(bQ d).trans (fq g).2.1;obtain⟨D,f,j,_⟩:=Ky m (m+1) n (am _) l (fq g).1 _ (qh b) d;have hF:A6 m (m+1) ((w,y,z),(A,B),C)=0:=by
  unfold A6;rw[if_pos b,f];unfold A7;simp only[j,cT]
 have h:=A8 m (m+1) (am _) _ W.heap.size W p (fi b) (am _);rw[hF]at h;refine h.mono ?_;rintro e w' ⟨q,a,c,rfl,k⟩;obtain⟨s,t,u,_,_,v⟩:=k;obtain⟨E,i,r⟩:=v rfl;rw[f]at i;obtain rfl:=aw i;obtain⟨_,t2,t3,_⟩:=xP (am _) b f r j;rw[(fq t2).2.2]at t3;exact⟨a,q.length,c,rfl,s,q,rfl,t,u,t2,bH _ _ _ _ _ _ t3 d⟩
theorem Ig(w:World):ak 19 #[] w λe w'=>∃a l c,e=.returned (ae a l c)/\Hid (yy w a l c w'):=by
 refine Es K8 rfl w (λy0 y1 y2 ya yl yc f=>aj w f/\∃(d:Nat)(b:Tm (d+1)),(b.1=(y0,y1,y2)/\b.2.1=(ya,yc)/\b.2.2.length=yl)/\ax (d+1) b 7 (bW 1 fM)=true/\In f.heap.size f (d+1) b) (yy w) ((BN M3 qF.1 w).mono ?_) λy0 y1 y2 ya yl yc f v ⟨i,d,b,q,s,r⟩ h=>?_
 ·rintro e w' ⟨d,b,rfl,g⟩;obtain⟨n,o,_,p⟩:=g.out;exact⟨_,_,_,_,_,_,rfl,p,d,b,⟨rfl,rfl,rfl⟩,n,o⟩
 ·refine(Gt Jp ⟨b,q,s,(r.below h).mono h.size⟩).mono ?_;rintro e w' ⟨a,m,c,rfl,g⟩;obtain⟨t,u,k⟩:=g;have j:=i.trans (h.mono i.size);exact⟨a,m,c,rfl,d,u,k.1,j.trans (t.mono j.size),k.2⟩
def ul(w0:World)(s:Sy)(i a:Nat)(W:World):Prop:=∃(p:jY)(d:fT),p.b=a/\bj p s d W/\(p.room=60/\ax (p.n+6) (bW p.n p.prog) 7 (bW 1 fM)=true)/\(d.k<=i*402/\d.es.length<=i*201/\d.wn<=i*201/\d.bn<=i*201)/\aj w0 W/\w0.heap.size<=p.lo
theorem KX(w0:World){a:Option Addr}{L c:Nat}{W:World}(m:yy w0 a L c W):ak 18 #[ae a L c,ab 60] W λe w'=>∃i,e=.returned (.tuple #[aC i,ab 0])/\Hid (ul w0 MW 0 i w'):=by
 obtain⟨k,s,rfl,d,g,n,f,o⟩:=m;refine(Ce k s a c 60 W n g.1 g.2 λ_=>fi (fq f).2.1).mono ?_;rintro e w' ⟨E,x,rfl,j⟩;obtain⟨p,q,_,r⟩:=j;have y:x=0:=by
  rw[p];unfold lw;rw[if_neg (by rw[f];decide),if_pos (by decide)]
 subst y;obtain⟨h,l,rfl,t,⟨z,u,A,B⟩,v,C,D,w⟩:=r rfl;exact⟨h.b,rfl,h,l,rfl,t,⟨v,bH _ _ _ _ _ _ w o⟩,⟨by omega,by rw[u];exact aH _,by omega,by omega⟩,d.trans (q.mono d.size),by have:=d.size;omega⟩
theorem bj.sound{p:jY}{s:Sy}{d:fT}{w:World}(e:bj p s d w):∀a nm cs c,s.get a=some (nm,cs,c)->(bz 13 cs=0/\aL 13 cs=true)/\∀t∈c,bz 13 t=0/\aL 13 t=true:=λa nm cs c g=>by
 obtain⟨b,k⟩:∃b,cU d.l a=some b:=by
  have:=e.alive a;rw[g]at this;exact fu.1 this
 obtain⟨q,i,h,f,j,_⟩:=e.ps a b k;rw[g]at f;obtain⟨rfl,rfl,rfl⟩:nm=q/\cs=i/\c=h:=by simpa using f
 obtain⟨m,n,o,_⟩:=j.ok;exact⟨⟨m,n⟩,o⟩
def CL(w0:World)(V:Nat->Prop)(a:World)(s:Sy)(i c:Nat)(W:World):Prop:=∃(p:jY)(d:fT),p.b=c/\bj p s d W/\(p.room=60/\ax (p.n+6) (bW p.n p.prog) 7 (bW 1 fM)=true)/\(d.k<=i*402/\d.es.length<=i*201/\d.wn<=i*201/\d.bn<=i*201)/\(aj w0 W/\w0.heap.size<=p.lo)/\(∀q,V q->q<a.heap.size/\d.ow q=0)/\bt (λq=>¬V q) a W
theorem CL.later{w0:World}{V:Nat->Prop}{d:World}{s:Sy}{i e:Nat}{W c:World}(h:CL w0 V d s i e W)(b:aj W c):CL w0 V d s i e c:=by
 obtain⟨o,f,g,j,k,l,a,m,n⟩:=h;exact⟨o,f,g,j.later b,k,l,⟨a.1.trans (b.mono a.1.size),a.2⟩,m,n.trans (aK b _) λ_ _ p=>p⟩
theorem CL.at{w0:World}{V:Nat->Prop}{c:World}{s:Sy}{i b:Nat}{W:World}(f:CL w0 V c s i b W):ul w0 s i b W:=by
 obtain⟨k,d,e,g,h,j,a,_⟩:=f;exact⟨k,d,e,g,h,j,a.1,a.2⟩
theorem ul.from{w0:World}{s:Sy}{i g:Nat}{a W:World}(l:ul w0 s i g a)(f:aj a W){V:Nat->Prop}(e:∀q,V q->a.heap.size<=q/\q<W.heap.size):CL w0 V W s i g W:=by
 obtain⟨p,b,k,c,m,n,d,o⟩:=l;refine⟨p,b,k,c.later f,m,n,⟨d.trans (f.mono d.size),o⟩,λq h=>⟨(e q h).2,?_⟩,bt.refl _ _⟩;by_cases j:b.ow q=0
 ·exact j
 ·have:=(c.low q j).2;have:=(e q h).1;omega
theorem N4{n:Nat}{P:List (Bh (n+1))}(f:ax (n+6) (bW n P) 7 (bW 1 fM)=true)(g:lP n P=0){s:Sy}(i:∀a nm cs d,s.get a=some (nm,cs,d)->(bz 13 cs=0/\aL 13 cs=true)/\∀t∈d,bz 13 t=0/\aL 13 t=true)(h:0<=s.last/\s.last<=90)(e:Int×Int×Int×Tc){m:Nat}{x:Tm m}(b:ax m x 13 e.2.2.2=true\/e.1≠3):s.do n P 60 e.1 e.2.1 e.2.2.1 m x=Jk s e:=by
 rw[EW f g Jp i h];rcases b with b|b
 ·by_cases c:e.1=3
  ·unfold Jk;rw[c];exact JO b s 60 e.2.1 e.2.2.1
  ·unfold Jk Sy.do;rw[if_neg c,if_neg c]
 ·unfold Jk Sy.do;rw[if_neg b,if_neg b]
theorem rU{p:jY}{s:Sy}{d f:fT}{a c B:Nat}{w w':World}(b:bj p s d w)(k:fI a c d f w w')(h:B<=p.lo):Below B w w':=by
 refine⟨k.1.os,k.1.tape,k.1.output,k.1.size,λe i=>k.1.block e ?_ λg=>?_⟩
 ·have:=b.lo.1;omega
 ·have:=(b.low e g).1;omega
theorem MY{w0:World}{V:Nat->Prop}{g:World}{s:Sy}{i l:Nat}{W:World}(y:CL w0 V g s i l W)(I:i<=100)(e:Int×Int×Int×Tc)(A:I2 (e.2.1,e.2.2.1)){m:Nat}(x:Tm (m+1))(E:In g.heap.size g (m+1) x/\ch V (m+1) x)(z:(ay (m+1) x).length<=2097152)(C:ax (m+1) x 13 e.2.2.2=true\/e.1≠3):ak 8 #[aC l,.agg #[ab e.1,ab e.2.1,ab e.2.2.1,ab x.1.1,ab x.1.2.1,af x.1.2.2,ae x.2.1.1 x.2.2.length x.2.1.2]] W λr w'=>r=.returned (ab (Jk s e).2)/\Hid (CL w0 V g (Jk s e).1 (i+1) l w'):=by
 obtain⟨F,G,rfl,d,⟨o,p⟩,J,j,f,k⟩:=y;have q:=eS k (D:=V) (λb a n=>n a) E;have B:=N4 p d.pg.2.2.2.1 d.sound ⟨d.keys.2.2.2.1,d.keys.2.2.2.2.1⟩ e C;refine(d.do A x ⟨q.1,q.2.mono λc a=>?_⟩ z (by omega) (by omega) (by omega) (by omega)).mono ?_
 ·have:=(f c a).2;omega
 ·rintro r w' ⟨O,rfl,v⟩;obtain⟨t,w,u,h⟩:=v;rw[o,B]at t u;have H:=k.size;refine⟨by rw[t],F,w,rfl,u,⟨o,p⟩,?_,⟨j.1.trans (rU d h j.2),j.2⟩,λc a=>⟨(f c a).1,?_⟩,k.trans h.1 λc _ a n=>?_⟩
  ·obtain⟨_,_,K,L,M,N⟩:=h;omega
  ·rw[h.2.1 c (by have:=(f c a).1;omega)];exact(f c a).2
  ·exact a (f c n).2
end Go.Proofs.YtmmahddlcldmiaaGreat
