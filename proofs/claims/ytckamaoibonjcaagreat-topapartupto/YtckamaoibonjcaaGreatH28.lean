/- What is proved here: plain facts and contracts that the claimed theorem stands on. No condition but those that each names. -/
import Derived.Test.YtckamaoibonjcaaGreatH27
namespace Go.Proofs.YtckamaoibonjcaaGreat
open Go.RowKit
open Go.RowKit Go.Maps
theorem Ix{a d:Type}{l r:List a}(c:List.Sublist l r)(f:a->List d):List.Sublist (l.flatMap f) (r.flatMap f):=by
 induction c with
 | slnil=>exact List.Sublist.refl _
 | cons b _ ih=>
  simp only[bv];exact ih.trans (List.sublist_append_right _ _)
 | cons_cons b _ ih=>
  simp only[bv];exact List.Sublist.append (List.Sublist.refl _) ih
theorem LC{b:Type}{l r:List b}(c:List.Sublist l r)(f:b->Int)(d:∀a,0<=f a):(l.map f).sum<=(r.map f).sum:=by
 induction c with
 | slnil=>exact iJ _
 | cons a _ ih=>
  simp only[aI,bC];have:=d a;omega
 | cons_cons a _ ih=>
  simp only[aI,bC];omega
theorem jz.erase{N:Nat}{ws:List Wd}{nm:List ByteArray}{room:Int}{d:Wd}{vs:List Wd}{s:Tm (N+1)}{ms:List (Tm (N+1))}(l:jz (N+1) ws nm room (d::vs) (s::ms))(i:Nat):jz (N+1) ws nm room (d::vs.eraseIdx i) (s::ms.eraseIdx i):=by
 obtain⟨f,o,p,v,q,r,t,u⟩:=l;have m:vs.length=ms.length:=by simpa using f.1
 have n:List.Sublist (d::vs.eraseIdx i) (d::vs):=(List.eraseIdx_sublist vs i).cons_cons d;have j:List.Sublist (s::ms.eraseIdx i) (s::ms):=(List.eraseIdx_sublist ms i).cons_cons s;refine⟨⟨by simp[List.length_eraseIdx,m],λc g e b a=>?_⟩,(Ix n _).nodup o,λe a=>p e (j.subset a),?_,q,r,t,u⟩
 ·cases c with
  | zero=>
   simp only[cI,iM]at b a;exact f.2 0 g e (by simp[b]) (by simp[a])
  | succ c=>
   simp only[cV,List.getElem?_eraseIdx]at b a;by_cases h:c<i
   ·rw[if_pos h]at b a;exact f.2 (c+1) g e (by simpa using b) (by simpa using a)
   ·rw[if_neg h]at b a;exact f.2 (c+2) g e (by simpa using b) (by simpa using a)
 ·have:=LC j (sz (N+1)) λk=>(eH (N+1) k).1;omega
section
variable {base pb:Nat} {name:ByteArray} {room:Int} {N:Nat} {s:Tm (N+1)} {ms:List (Tm (N+1))} {nk:Nat} {M:Nat->Prop} {w:World} {ws:List Wd} {nm:List ByteArray} {sv:Wd} {vs:List Wd} {ma:Option Addr} {mc:Nat} {Mh:Nat->Prop}
theorem cv.dropped(a:cv base pb name room (N+1) s ms [] nk M w ws nm sv vs ma mc Mh)(i:Nat){w1:World}{g:Nat}(x:¬Mh g)(l:bk (λb=>b=g) w w1)(v:jl Mh ma (vs.eraseIdx i) mc w1)(u:M g):cv base pb name room (N+1) s (ms.eraseIdx i) [] nk M (w1.setCell ⟨pb,7,none⟩ (.slice ma (vs.eraseIdx i).length mc)) ws nm sv (vs.eraseIdx i) ma mc Mh/\bO M w (w1.setCell ⟨pb,7,none⟩ (.slice ma (vs.eraseIdx i).length mc)):=by
 obtain⟨m,z⟩:=a.box0;have q:dy base (PL pb name sv (.slice ma vs.length mc)) room ws nm Mh w1:=a.heap.kept (iV l) λb r _ c=>x (by rw[<-c];exact r);have k:=bi w1 pb 7 (.slice ma (vs.eraseIdx i).length mc);have j:=a.has;simp only[bR,ed]at j;refine⟨⟨q.turn k λB A mp t=>?_,?_,?_,?_,a.names,a.inM,a.mailM⟩,?_⟩
 ·unfold World.setCell;simp[bG,t]
 ·rcases v with d|⟨h,y,n,o,e,f,p⟩
  ·exact ag d
  ·exact ah ⟨h,y,n,o,e,(k.block h (aC.1 f).1 λd=>e (by rw[d];exact m)).trans f,p⟩
 ·simp only[bR,ed];exact j.erase i
 ·simp[List.length_eraseIdx,a.len]
 ·refine bO.trans ((iV l).mono λb c=>?_) k λb _ c=>?_
  ·rw[c];exact u
  ·rw[c];exact a.inM pb m
theorem cv.delete(a:cv base pb name room (N+1) s ms [] nk M w ws nm sv vs ma mc Mh)(i:Nat)(H:i<ms.length)(G:ms.length<=1000):ak 71 #[.slice ma vs.length mc,ab i,ab ((i:Int)+1)] w λe w'=>e=.returned (.slice ma (vs.eraseIdx i).length mc)/\Hid (bk M w w'/\w'.cell? ⟨pb,7,none⟩=some (.slice ma vs.length mc)/\w'.frozen? ⟨pb,7,none⟩=false/\ cv base pb name room (N+1) s (ms.eraseIdx i) [] nk M (w'.setCell ⟨pb,7,none⟩ (.slice ma (vs.eraseIdx i).length mc)) ws nm sv (vs.eraseIdx i) ma mc Mh/\bO M w (w'.setCell ⟨pb,7,none⟩ (.slice ma (vs.eraseIdx i).length mc))):=by
 have k:=a.len;obtain⟨E,m⟩:=a.box0;have f:(vs.eraseIdx i).length=vs.length-1:=by rw[List.length_eraseIdx,if_pos (by omega)]
 rcases a.mail with⟨_,e,_⟩|⟨g,n,u,rfl,d,x,y,z,A,B⟩
 ·rw[e]at k;simp at k;omega
 ·refine(xP g n mc i vs u w (by omega) x y (by omega) A B).mono ?_;rintro e w' ⟨rfl,o⟩;obtain⟨c,I,v,p,F,q⟩:=o.out;have j:=a.mailM _ rfl;have l:¬pb=g:=λe=>d (by rw[<-e];exact E);obtain⟨L,J,K,C,_⟩:=a.heap.box;obtain⟨_,_,_,r,t,_⟩:=PL.cells C;have D:=a.dropped i (w1:=w') (g:=g) d c (ah ⟨g,n,v,rfl,d,p,by omega,z,by omega,by rw[f];exact q⟩) j;refine⟨by rw[f],c.mono λb _ e=>by rw[e];exact j,(c.cell 7 m l).trans r,?_,D⟩;have h:=t 7;unfold World.frozen? at h ⊢;rw[c.block pb m l];exact h
end
def qQ(n:Nat)(room:Int)(l:List (Bh (n+1)))(name:ByteArray)(self next:Int)(s:Tc)(ms:List Tc):Int:=
 if nn n l≠0 then nn n l else if (decide (1<=self) && decide (self<=99) && decide (1<=next) && decide (next<=92))=false then 1 else if (mP room l name self next s ms).isSome then 0 else 4
def lj(c:Nat)(sends:List (Int×Tc))(spawns:List (Int×ByteArray×Tc))(links:List Int)(sa:Option Addr)(sl sc:Nat)(pa:Option Addr)(pl pc:Nat)(ka:Option Addr)(kl kc:Nat)(P:Nat->Prop)(w:World):Prop:=
 ∃(f:Nat)(d:List (Int×Tm (f+1)))(e:List (Int×ByteArray×Tm (f+1))),(d.length=sl/\e.length=pl/\links.length=kl)/\w.ownsRow c 162 5 (.slice sa sl sc) sl (d.flatMap λa=>Ma a.1 a.2)/\w.ownsRow c 159 6 (.slice pa pl pc) pl (e.flatMap λa=>M9 a.1 a.2.1 a.2.2)/\w.ownsRow c 3 1 (.slice ka kl kc) kl (links.map λg=>ab g)/\
  d.map (λa=>(a.1,cn _ a.2))=sends/\e.map (λa=>(a.1,a.2.1,cn _ a.2.2))=spawns/\(∀a∈d,bq _ a.2=0/\In w.heap.size w _ a.2/\bZ (λb=>c<=b/\P b) _ a.2)/\(∀a∈e,bq _ a.2.2=0/\In w.heap.size w _ a.2.2/\bZ (λb=>c<=b/\P b) _ a.2.2)/\∀b,((Value.slice sa sl sc).ownBlock=some b\/(Value.slice pa pl pc).ownBlock=some b\/(Value.slice ka kl kc).ownBlock=some b)->c<=b/\P b
theorem lj.kept{f:Nat}{sends:List (Int×Tc)}{spawns:List (Int×ByteArray×Tc)}{links:List Int}{sa:Option Addr}{sl sc:Nat}{pa:Option Addr}{pl pc:Nat}{ka:Option Addr}{kl kc:Nat}{P:Nat->Prop}{w w':World}(v:lj f sends spawns links sa sl sc pa pl pc ka kl kc P w){S:Nat->Prop}(r:bk S w w')(o:∀q,f<=q->P q->q<w.heap.size->¬S q):lj f sends spawns links sa sl sc pa pl pc ka kl kc P w':=by
 obtain⟨u,H,I,x,y,z,A,B,C,g,h,i⟩:=v;have p:∀{e:Nat}{m:Tm e},In w.heap.size w e m->bZ (λq=>f<=q/\P q) e m->In w'.heap.size w' e m:=λF G=>F.kee (r.mono (T:=λb=>S b/\b<w.heap.size) λb D q=>⟨q,D⟩) (G.mono λq c (a:S q/\q<w.heap.size)=>o q c.1 c.2 a.2 a.1);have l:∀{k:TypeId}{a e:Nat}{j:Value}{n:List Value},w.ownsRow f k a j e n->(∀q,j.ownBlock=some q->f<=q/\P q)->w'.ownsRow f k a j e n:=λ{k a e j n} s t=>aY s r λq c=>by
  obtain⟨J,E⟩:=dS s q c;exact o q (t q c).1 (t q c).2 (aC.1 E).1
 exact⟨u,H,I,x,l y λq c=>i q (ag c),l z λq c=>i q (ah (ag c)),l A λq c=>i q (ah (ah c)),B,C,λa d=>⟨(g a d).1,p (g a d).2.1 (g a d).2.2,(g a d).2.2⟩,λa d=>⟨(h a d).1,p (h a d).2.1 (h a d).2.2,(h a d).2.2⟩,i⟩
theorem lj.none(c:Nat)(P:Nat->Prop)(w:World):lj c [] [] [] none 0 0 none 0 0 none 0 0 P w:=
 ⟨0,[],[],⟨rfl,rfl,rfl⟩,ek _ _ _ _,ek _ _ _ _,ek _ _ _ _,rfl,rfl,λd b=>(by cases b),λd b=>(by cases b),λe a=>by
  rcases a with a|a|a<;>cases a⟩
def On(r q:Nat)(name:ByteArray)(room:Int)(s:Tc)(ms:List Tc)(o:Nat)(M:Nat->Prop)(n:Nat)(l:List (Bh (n+1)))(self next:Int)(w:World)(e:Ending)(w':World):Prop:=
 (∃g,e=.returned (.tuple #[LH,ab g])/\Hid (g≠0/\g=qQ n room l name self next (cn 13 s) (ms.map (cn 13))/\ai w w'))\/
  ∃(a:Tc)(f:Int)(sa:Option Addr)(sl sc:Nat)(pa:Option Addr)(pl pc:Nat)(ka:Option Addr)(kl kc:Nat),e=.returned (.tuple #[Nu a.1.1 a.1.2.1 a.1.2.2 a.2.1.1 a.2.2.length a.2.1.2 f sa sl sc pa pl pc ka kl kc,ab 0])/\Hid (∃b h d,qQ n room l name self next (cn 13 s) (ms.map (cn 13))=0/\mP room l name self next (cn 13 s) (ms.map (cn 13))=some b/\f=b.fate/\cn 13 a=b.message/\bq 13 a=0/\In w'.heap.size w' 13 a/\bZ (λc=>w.heap.size<=c/\c<d) 13 a/\bO M w w'/\w.heap.size<d/\
   (∃i v p t u k m j,cv r q name room 13 i (ms.eraseIdx h) [] (o+402) (λc=>M c\/d<=c) w' v p t u k m j/\cn 13 i=b.state/\(ms.eraseIdx h).map (cn 13)=b.mail)/\lj (w.heap.size+1) b.sends b.spawns b.links sa sl sc pa pl pc ka kl kc (λ_=>True) w')
theorem MQ{n:Nat}(room self next:Int)(s m:Tc)(ms:List Tc)(c:Cl (n+1))(b:List Tc):eY room self next s m ms c b={eY room self next s s ms c b with message:=m}:=by
 unfold eY;cases py self c.2.2 ⟨b,next,[],[],[],false⟩with
 | none=>rfl
 | some e=>
  cases d:rS e.b self (n+1) c.1.2.2 with
  | none=>simp only[d]
  | some t=>
   simp only[d];by_cases a:(ms.map (sz 13)).sum+sz 13 t<=room
   ·simp only[if_pos a]
   ·simp only[if_neg a]
theorem Fq{n:Nat}{room self next:Int}{s m:Tc}{ms:List Tc}{c:Cl (n+1)}{b:List Tc}(a:¬((eY room self next s m ms c b).fate=0\/(eY room self next s m ms c b).fate=1)):(eY room self next s m ms c b).sends=[]/\(eY room self next s m ms c b).spawns=[]/\(eY room self next s m ms c b).links=[]:=by
 unfold eY at a ⊢;cases hd:py self c.2.2 ⟨b,next,[],[],[],false⟩with
 | none=>exact⟨rfl,rfl,rfl⟩
 | some d=>
  rw[hd]at a;cases f:rS d.b self (n+1) c.1.2.2 with
  | none=>simp[f]
  | some t=>
   simp only[f]at a ⊢;by_cases e:(ms.map (sz 13)).sum+sz 13 t<=room
   ·simp only[if_pos e]at a;cases hst:d.stops<;>simp[hst]at a
   ·simp[if_neg e]
theorem Fp{n:Nat}(room self next:Int)(s m:Tc)(ms:List Tc)(c:Cl (n+1))(b:List Tc):(eY room self next s m ms c b).mail=ms:=by
 unfold eY;cases py self c.2.2 ⟨b,next,[],[],[],false⟩with
 | none=>rfl
 | some e=>
  cases d:rS e.b self (n+1) c.1.2.2 with
  | none=>simp only[d]
  | some t=>
   simp only[d];by_cases a:(ms.map (sz 13)).sum+sz 13 t<=room
   ·simp only[if_pos a]
   ·simp only[if_neg a]
theorem p7.keptS{D:Nat}{l:List (Tm D)}{B:List Tc}{d:Nat}{w w':World}{b h:Nat}{S:Nat->Prop}(a:p7 D l B d w b h)(c:bk S w w')(g:∀q,d<=q->¬S q):p7 D l B d w' b h:=by
 obtain⟨e,f⟩:=a.new;refine⟨a.bnd,a.tells,a.cap,⟨e,aL f c.size⟩,λn t m=>?_,λo=>?_⟩
 ·obtain⟨p,r,j⟩:=a.at' n t m;exact⟨p.kee c f (g b e),r.kee c (j.mono λs k=>g s k.1),j⟩
 ·have i:=a.free o;unfold World.frozen? at i ⊢;rw[c.block b f (g b e)];exact i
theorem vT{n B:Nat}{w:World}{p:Option Addr}{l:List (Bh (n+1))}(j:gM (n+1) B w p l)(name:ByteArray):∃e d g,KE (n+1) (fU (n+1) name l)=.slice e d g/\(fW name l).length=d/\pr B w 13 (eO (n+1)) (gL (n+1) B w) e (fW name l)/\(fW name l=[]\/∃b∈l,fW name l=b.2.2):=by
 have k:∀(l:List (Bh (n+1))) b,fU (n+1) name l=some b->b∈l:=by
  intro l
  induction l with
  | nil=>intro b a;cases a
  | cons q l ih=>
   intro b a;simp only[fU]at a;split at a
   ·obtain rfl:=au a;simp
   ·exact bH _ (ih b a)
 unfold fW;cases hb:fU (n+1) name l with
 | none=>exact⟨none,0,0,rfl,rfl,ag rfl,ag rfl⟩
 | some b=>
  have c:=k l b hb;refine⟨_,_,_,rfl,rfl,?_,ah ⟨b,c,rfl⟩⟩;rcases j with f|⟨s,o,f,r,h⟩
  ·rw[f]at c;cases c
  ·obtain⟨m,i⟩:=cJ c;exact((h m b i).2).2.2
theorem cv.step{am J n:Nat}{name:ByteArray}{room:Int}{s:Tc}{ms:List Tc}{al:Nat}{M:Nat->Prop}{w:World}{ws:List Wd}{nm:List ByteArray}{bp:Wd}{vs:List Wd}{ma:Option Addr}{aE:Nat}{Mh:Nat->Prop}(S:cv am J name room 13 s ms [] al M w ws nm bp vs ma aE Mh)(l:List (Bh (n+1)))(Z:Option Addr)(L B:Nat)(a3:gM (n+1) B w Z l)(Q:B<=w.heap.size)(b5:l.length<=L)(bh:L<=maxLen)(bI:jP (n+1) l=true->(av (n+6) (bW n l)).length<=2097152)(R:∀b,M b->b<w.heap.size)(bJ:∀W,bk M w W->gM (n+1) B W Z l)(cy:al<=47000)(cr:ms.length<=999)(cs:am<=w.heap.size)(self next:Int):ak 43 #[.pointer (some ⟨J,0,none⟩),.slice Z l.length L,ab self,ab next] w (On am J name room s ms al M n l self next w):=by
 obtain⟨b9,ca⟩:=S.box0 (N:=12);obtain⟨cI,cB,cE,bK,_⟩:=S.heap.box;obtain⟨bx,_,_,cp,cq,_⟩:=PL.cells bK;obtain⟨aU,bA,bb,bT,bR,bU,bS⟩:=vT a3 name;have cx:L<=9223372036854775807:=by unfold maxLen at bh;omega
 have bf:nn n l=0->(∀c∈fW name l,pj c)/\(fW name l).length<=6:=λq=>by
  obtain⟨_,bi⟩:=Ep q;rcases bS with d|⟨b,r,d⟩
  ·rw[d];exact⟨λc bM=>(by cases bM),aF _⟩
  ·rw[d];exact⟨(bi b r).2,(bi b r).1⟩
 have a1:∀(g:Nat)(t:Tc),(ms.map (cn 13))[g]?=some t->g<ms.length:=λg t aq=>by
  have:=(aM.1 aq).1;simpa using this
 refine(Gt J name Z l.length L self next (nn n l) aU bA bb w (rq (fW name l) (cn 13 s) (ms.map (cn 13)) 0=none)
  (λg i c v F u=>∃j A E,ai w u/\(1<=self/\self<=99/\1<=next/\next<=92)/\nn n l=0/\rq (fW name l) (cn 13 s) (ms.map (cn 13)) 0=some (g,c,j)/\c∈fW name l/\(ms.map (cn 13))[g]?=some (cn 13 i)/\bq 13 i=0/\In u.heap.size u 13 i/\bZ (λa=>w.heap.size<a/\a≠v) 13 i/\p7 (A+1) E j (w.heap.size+1) u v F)
  (λg i c v F u=>∃j A E aP aI aK aN az aG ao,cv am J name room 13 s (ms.eraseIdx g) [] al M u aP aI aK aN az aG ao/\bO M w u/\(1<=self/\self<=99/\1<=next/\next<=92)/\nn n l=0/\rq (fW name l) (cn 13 s) (ms.map (cn 13)) 0=some (g,c,j)/\c∈fW name l/\(ms.map (cn 13))[g]?=some (cn 13 i)/\bq 13 i=0/\In u.heap.size u 13 i/\bZ (λa=>w.heap.size<a/\a≠v) 13 i/\p7 (A+1) E j (w.heap.size+1) u v F)
  (λg i c f sa sl sc pa pl pc ka kl kc P=>∃j aa,rq (fW name l) (cn 13 s) (ms.map (cn 13)) 0=some (g,c,j)/\(ms.map (cn 13))[g]?=some (cn 13 i)/\bq 13 i=0/\In P.heap.size P 13 i/\bZ (λa=>w.heap.size<a/\a<aa) 13 i/\w.heap.size<aa/\bO M w P/\f=(eY room self next (cn 13 s) (cn 13 s) ((ms.eraseIdx g).map (cn 13)) c j).fate/\
   (∃O aP aI aK aN az aG ao,cv am J name room 13 O (ms.eraseIdx g) [] (al+402) (λa=>M a\/aa<=a) P aP aI aK aN az aG ao/\cn 13 O=(eY room self next (cn 13 s) (cn 13 s) ((ms.eraseIdx g).map (cn 13)) c j).state)/\
   lj (w.heap.size+1) (eY room self next (cn 13 s) (cn 13 s) ((ms.eraseIdx g).map (cn 13)) c j).sends (eY room self next (cn 13 s) (cn 13 s) ((ms.eraseIdx g).map (cn 13)) c j).spawns (eY room self next (cn 13 s) (cn 13 s) ((ms.eraseIdx g).map (cn 13)) c j).links sa sl sc pa pl pc ka kl kc (λ_=>True) P)
  _ M ca R (S.inM J b9) rfl ?_ bx ?_ ?_ ?_ ?_).mono ?_
 ·intro W k;refine(JO n l Z L b5 bh B W (a3.below (k.mono Q)) (ax Q k.size) bI).mono ?_;rintro d K ⟨i,rfl,x⟩;exact⟨_,_,_,_,_,_,rfl,x.out.1⟩
 ·intro W _ k;refine(tU (n+1) name l Z L l.length B W rfl (by omega) (ax Q k.size) (a3.below (k.mono Q))).mono ?_;rintro d K ⟨rfl,r⟩;exact⟨by rw[bT],r⟩
 ·intro W q y k;simp only[aB,bX]at y;obtain⟨a4,b6⟩:=bf q;have be:=B9 (S.later (N:=12) k) (fW name l) aU bb B ((cu (dU (n+1)) 13 (eO (n+1)) aU).below (k.mono Q) bU) (ax Q k.size) a4 (by omega) (by omega) (by omega);rw[bR]at be;refine be.mono ?_;rintro d K (⟨bG,rfl,x⟩|⟨g,i,c,v,F,rfl,x⟩)
  ·exact ag ⟨rfl,x.out,bG⟩
  ·obtain⟨j,A,E,G,H,z,I,bm,V,X,D⟩:=x.out;have cf:=k.size;have aj:=D.new;have a0:=a1 g _ z;exact ah ⟨g,i,c,v,F,rfl,bm,by omega,aj.2,by omega,j,A,E,k.trans (bm.mono cf),⟨y.1.1.1,y.1.1.2,y.1.2,y.2⟩,q,G,H,z,I,V,X.mono λa h=>⟨by omega,h.2⟩,D.mono (by omega)⟩
 ·rintro g i c v F u W ⟨j,A,E,aW,T,q,G,H,z,I,V,X,D⟩ k;have aX:=aW.trans (k.mono aW.size);have a0:=a1 g _ z;obtain⟨cK,cC,cF,bL,_⟩:=(S.later (N:=12) aX).heap.box;obtain⟨_,_,_,bz,bB,_⟩:=PL.cells bL;refine⟨ma,vs.length,aE,⟨bz,bB 7⟩,λbw au=>?_⟩;have bc:=aX.trans (au.mono aX.size);refine((S.later (N:=12) bc).delete (N:=12) g a0 (by omega)).mono ?_;rintro d K ⟨rfl,x⟩;obtain⟨ch,ci,cj,ck,a7⟩:=x.out;have cc:=aW.size;refine⟨ma,_,aE,rfl,ch,ci,cj,j,A,E,ws,nm,bp,_,ma,aE,Mh,ck,(aV bc M).trans a7 λ_ _ d=>d,T,q,G,H,z,I,?_,X,?_⟩
  ·exact(((V.below k).mono k.size |>.below au).mono au.size).kee (gT a7) (X.mono λa h e=>by have:=R a e;omega)
  ·exact((D.keptS (aD k (λ_=>False)) (λ_ _ d=>d)).keptS (aD au (λ_=>False)) (λ_ _ d=>d)).keptS (gT a7) λa h e=>by have:=R a e;omega
 ·rintro g i c v F u W ad ⟨j,A,E,aP,aI,aK,aN,az,aG,ao,b8,a2,T,q,G,H,z,I,V,X,D⟩ k ct bd;obtain⟨a4,b6⟩:=bf q;have Y:=D.keptS (aD k (λ_=>False)) (λ_ _ d=>d);have aj:=D.new;have cc:=a2.size;have ce:=k.size;have a0:=a1 g _ z;have cw:ad<W.heap.size:=(aC.1 bd).1;have bY:dT (w.heap.size+1) ad self n A 0 next ⟨j,next,[],[],[],false⟩ W E v F [] [] (.slice none 0 0) (.slice none 0 0) (.slice none 0 0):=by
   refine⟨bd,⟨by omega,by omega,aj.1,Y.new.2,by omega⟩,Y.bnd,Y.tells,λU e p=>⟨(Y.at' U e p).1,(Y.at' U e p).2.1,(In.offB (D.at' U e p).2.2 (D.at' U e p).2.1).mono λa h=>⟨h.1.1,λm=>?_⟩⟩,Y.free,ek _ _ _ _,ek _ _ _ _,ek _ _ _ _,rfl,rfl,λe p=>(by cases p),λe p=>(by cases p),⟨⟨λd=>(by cases d),λd=>(by cases d),λd=>(by cases d)⟩,⟨λd=>(by cases d),λd=>(by cases d),λd=>(by cases d)⟩,λa=>⟨λd=>(by cases d),λd=>(by cases d)⟩⟩,⟨aF _,aF _,aF _,by simp,T.2.2.1,T.2.2.2⟩⟩;rcases m with m|m|m|m|m
   ·have:=h.2;omega
   ·exact h.1.2 m
   ·cases m
   ·cases m
   ·cases m
  have b4:bk M w W:=(gT a2).trans (aD k (λ_=>False)) λ_ _ d=>d.elim;have bQ:gL (n+1) B W c:=by
   obtain⟨_,_,_,_,_,bV,_⟩:=vT (bJ W b4) name;rcases bV with d|⟨a,o,d,h,bP⟩
   ·rw[d]at H;cases H
   ·obtain⟨U,b3⟩:=cJ H;exact(bP U c b3).2
  have bN:gL (n+1) (w.heap.size+1) W c:=(dU (n+1)).mono (by omega) bQ;have b0:(ms.eraseIdx g).length<=999:=by
   have:=List.length_eraseIdx_le ms g;omega
  have aZ:=Cj (b:=j) (b8.later (N:=12) k) bY rfl c bN (a4 c H) ⟨T.1,T.2.1⟩ (λa e=>by have:=R a e;omega) (by omega) (by omega) b0;have b1:ak 72 #[.pointer (some ⟨J,0,none⟩),Ou c,.pointer (some ⟨ad,0,none⟩)] W _:=aZ;refine b1.mono ?_;rintro d K ⟨f,rfl,aS,aT,⟨O,aQ,aJ,aL,aO,aA,aH,ap,a9,ba⟩,bv⟩;have aY:∀a,kM ad v (.slice none 0 0) (.slice none 0 0) (.slice none 0 0) a->a=ad\/a=v:=λa m=>by
   rcases m with m|m|m|m|m
   ·exact ag m
   ·exact ah m
   ·cases m
   ·cases m
   ·cases m
  have ae:bO M w K:=(a2.trans (aV k M) λ_ _ d=>d).trans (iV aT) λa h e=>by
   rcases e with e|e
   ·exact e
   ·rcases aY a e with e|e<;>omega
  have an:=In.offB X V
  have aR:In K.heap.size K 13 i:=((V.below k).mono ce).kee aT (an.mono λa h e=>by
   rcases e with e|e
   ·have:=R a e;omega
   ·rcases aY a e with e|e
    ·have:=h.2;omega
    ·exact h.1.2 e)
  have br:bZ (λa=>w.heap.size<a/\a<W.heap.size) 13 i:=an.mono λa h=>⟨h.1.1,by have:=h.2;omega⟩;refine⟨f,rfl,aT.mono λa _ e=>?_,λar=>?_,λar=>?_⟩
  ·rcases e with e|e
   ·exact ag e
   ·exact ah (aY a e)
  ·obtain⟨bC,cA,co,cm,bn,bo,cH,cG,cD,C,bs,bt,a8,_⟩:=bv ar;have bl:=C.sRow;have bj:=C.pRow;have bg:=C.lRow;have b2:=C.high;have a6:=C.sIn;have a5:=C.pIn;obtain⟨sa,sc,rfl⟩:=lS bl;obtain⟨pa,pc,rfl⟩:=lS bj;obtain⟨ka,kc,rfl⟩:=lS bg;refine⟨_,_,_,_,sa,bn.length,sc,pa,bo.length,pc,ka,bC.links.length,kc,C.box,j,W.heap.size,G,z,I,aR,br,by omega,ae,aS,⟨O,aQ,aJ,aL,aO,aA,aH,ap,a9,ba⟩,?_⟩;refine⟨A+1+n,bn,bo,⟨rfl,rfl,by rw[<-a8]⟩,bl,bj,by rw[<-a8];exact bg,C.sIs.trans bs,C.pIs.trans bt,λe p=>⟨(a6 e p).1,(a6 e p).2.1,(a6 e p).2.2.mono λa h=>⟨h.1,trivial⟩⟩,λe p=>⟨(a5 e p).1,(a5 e p).2.1,(a5 e p).2.2.mono λa h=>⟨h.1,trivial⟩⟩,λa h=>⟨b2 a (ah (ah h)),trivial⟩⟩
  ·rw[aS]at ar;obtain⟨bD,bE,bF⟩:=Fq ar;refine⟨j,W.heap.size,G,z,I,aR,br,by omega,ae,aS,⟨O,aQ,aJ,aL,aO,aA,aH,ap,a9,ba⟩,?_⟩;rw[bD,bE,bF];exact lj.none _ _ _
 ·rintro d K (⟨cl,rfl,x⟩|⟨g,i,c,f,sa,sl,sc,pa,pl,pc,ka,kl,kc,rfl,x⟩)
  ·obtain⟨r,cg⟩:=x.out;refine ag ⟨cl,rfl,?_⟩;rcases cg with⟨rfl,aq⟩|⟨rfl,q,y⟩|⟨rfl,q,y,aj⟩
   ·exact⟨aq,by unfold qQ;rw[if_pos aq],r⟩
   ·exact⟨by decide,by unfold qQ;rw[if_neg (λa=>a q),if_pos y],r⟩
   ·refine⟨by decide,?_,r⟩;have ay:mP room l name self next (cn 13 s) (ms.map (cn 13))=none:=by
     unfold mP;rw[aj];rfl
    unfold qQ;rw[if_neg (λa=>a q),if_neg (by rw[y];decide),ay];rfl
  ·obtain⟨q,y,P,bw,⟨j,aa,G,z,I,aR,an,bH,ae,aZ,⟨O,aQ,aJ,aL,aO,aA,aH,ap,P1,bu⟩,cb⟩,af,aw⟩:=x.out;have cz:=ae.size;have cd:=af.size;have b7:(ms.map (cn 13)).eraseIdx g=(ms.eraseIdx g).map (cn 13):=by simp[rV,List.map_take,List.map_drop]
   have ay:mP room l name self next (cn 13 s) (ms.map (cn 13))=some {eY room self next (cn 13 s) (cn 13 s) ((ms.eraseIdx g).map (cn 13)) c j with message:=cn 13 i}:=by
    unfold mP;rw[G];simp only[dn];rw[z,b7,Option.map_some,MQ]
   refine ah ⟨i,f,sa,sl,sc,pa,pl,pc,ka,kl,kc,rfl,_,g,aa,?_,ay,aZ,rfl,I,((aR.below af).mono cd).kee aw (an.mono λa h d=>by omega),an.mono λa h=>⟨by omega,h.2⟩,(ae.trans (aV af M) λ_ _ d=>d).trans (iV aw) λb r d=>by omega,bH,⟨O,aQ,aJ,aL,aO,aA,aH,ap,(P1.later (N:=12) af).kept (N:=12) (iV aw) λb r _ d=>?_,bu,(Fp ..).symm⟩,(cb.kept (aD af (λ_=>False)) λ_ _ _ _ d=>d).kept aw λa h _ _ d=>by omega⟩
   ·unfold qQ;rw[if_neg (λa=>a q),if_neg (by rw[y];decide),ay];rfl
   ·rcases r with r|r
    ·have:=R b r;omega
    ·omega
theorem EX(n:Nat)(x:Tm n):bq n x=0\/bq n x=2\/bq n x=5:=by
 rw[<-fZ];unfold vH;split
 ·split
  ·exact ah (ag rfl)
  ·exact ag rfl
 ·exact ah (ah rfl)
section
variable {base pb:Nat} {name:ByteArray} {room:Int} {N n:Nat} {s:Tm (N+1)} {ms:List (Tm (N+1))} {nk:Nat} {M:Nat->Prop} {w:World} {ws:List Wd} {nm:List ByteArray} {sv:Wd} {vs:List Wd} {ma:Option Addr} {mc:Nat} {Mh:Nat->Prop}
theorem cv.putBad(k:cv base pb name room (N+1) s ms [] nk M w ws nm sv vs ma mc Mh)(x:Tm (n+1))(B:In w.heap.size w (n+1) x)(z:bZ (λb=>¬M b) (n+1) x)(u:(av (n+1) x).length<=2097152)(G:nk<=49000)(F:base<=w.heap.size)(o:bq (n+1) x≠0):ak 109 #[.pointer (some ⟨pb,0,none⟩),df (n+1) x] w λe w'=>e=.returned (.tuple #[.agg #[ab 0,ab 0],ab (bq (n+1) x)])/\ai w w':=by
 obtain⟨_,_,_,I,J,C,D,_⟩:=k.front;have H:=k.names;have l:jo (n+1) x room ws=bq (n+1) x:=by
  unfold jo;rw[if_pos o]
 have t:jo (n+1) x room ws≠6:=by
  rw[l];rcases EX (n+1) x with e|e|e<;>rw[e]<;>decide
 have p:∀{h:Wd}{c:Int}{f i:World},xx (n+1) x base (PL pb name sv (.slice ma vs.length mc)) room ws nm Mh h c f i->c≠0:=λg=>by
  rw[g.1,l];exact o
 refine(AV pb x.1.1 x.1.2.1 x.1.2.2 x.2.1.1 x.2.2.length x.2.1.2 w (λh c f i=>xx (n+1) x base (PL pb name sv (.slice ma vs.length mc)) room ws nm Mh h c f i) (λ_ _=>False) (λ_ _ _ _=>False) ?_ ?_ ?_).mono ?_
 ·intro f d;have m:=d.size;have q:=k.later d;refine(uj (n+1) x base (PL pb name sv (.slice ma vs.length mc)) room ws nm Mh f q.heap ((B.below d).mono m) (z.mono λb d g=>d (k.inM b g)) u (by omega) C D (by omega) (by omega)).mono ?_;intro e i g;obtain⟨h,c,rfl,a⟩:=yu g;refine⟨h,c,rfl,?_,a⟩;have j:=(a.2.1 (p a)).2;exact⟨j.size,λb _ _ r=>j.block b r⟩
 ·intro K f i L _ a _ _;exact absurd a.1.symm t
 ·intro _ _ _ a;exact a.elim
 ·rintro e w' ⟨h,c,rfl,⟨_,f,i,d,a,y⟩|⟨_,_,_,_,_,_,_,_,_,_,_,a,_⟩⟩
  ·obtain⟨A,j⟩:=a.2.1 (p a);have m:=d.size;have v:c=bq (n+1) x:=a.1.trans l;refine⟨by rw[v,A],(d.trans (j.mono m)).trans ((gT y).below (by have:=j.size;omega) λb E g=>by omega)⟩
  ·exact a.elim
theorem cv.deliverBad(f:cv base pb name room (N+1) s ms [] nk M w ws nm sv vs ma mc Mh)(x:Tm (n+1))(v:In w.heap.size w (n+1) x)(t:bZ (λb=>¬M b) (n+1) x)(p:(av (n+1) x).length<=2097152)(r:nk<=49000)(q:base<=w.heap.size)(k:bq (n+1) x≠0):ak 78 #[.pointer (some ⟨pb,0,none⟩),df (n+1) x] w λe w'=>e=.returned (ab (if 20<=ms.length then 2 else bq (n+1) x))/\ai w w':=by
 have z:=f.len;obtain⟨A,u⟩:=f.box0;refine(qt pb x.1.1 x.1.2.1 x.1.2.2 x.2.1.1 x.2.2.length x.2.1.2 vs.length mc ma w (λ_ l h d=>l=bq (n+1) x/\ai h d) (λ_ _ _ _ _ _=>False) u ?_ ?_ ?_).mono ?_
 ·intro d a;obtain⟨D,B,C,i,_⟩:=(f.later a).heap.box;exact(PL.cells i).2.2.2.1
 ·intro h a;have g:=a.size;refine((f.later a).putBad x ((v.below a).mono g) t p r (ax q g) k).mono ?_;rintro e d ⟨rfl,c⟩;exact⟨(0,0),_,rfl,⟨c.size,λb _ _ j=>c.block b j⟩,rfl,c⟩
 ·rintro y h d ⟨e,_⟩;exact absurd e.symm k
 ·rintro e w' ⟨i,m⟩;by_cases o:20<=vs.length
  ·obtain⟨rfl,a⟩:=i o;exact⟨by rw[if_pos (by omega)],a⟩
  ·obtain⟨y,l,h,d,rfl,a,⟨rfl,c⟩,j,_⟩:=m (by omega);have g:=a.size;exact⟨by rw[if_neg (by omega)],(a.trans (c.mono g)).trans ((j k).mono (by have:=c.size;omega))⟩
end
def mD(n:Nat)(x:Tm n)(room:Int)(s:Tc)(ms:List Tc):Int:=if 20<=ms.length then 2 else if bq n x≠0 then bq n x else if aH n x=false then 5 else if ((s::ms).map (sz 13)).sum+sz n x<=room then 0 else 6
theorem DS{l:List Tc}(a:∀y∈l,bq 13 y=0):((l.map (cn 13)).map (sz 13)).sum=(l.map (sz 13)).sum:=by
 rw[fI];congr 1;exact jf λy b=>DT (a y b)
section
variable {base pb:Nat} {name:ByteArray} {room:Int} {n:Nat} {s:Tc} {ms:List Tc} {nk:Nat} {M:Nat->Prop} {w:World} {ws:List Wd} {nm:List ByteArray} {sv:Wd} {vs:List Wd} {ma:Option Addr} {mc:Nat} {Mh:Nat->Prop}
theorem cv.deliverC(f:cv base pb name room 13 s ms [] nk M w ws nm sv vs ma mc Mh)(x:Tm (n+1))(C:In w.heap.size w (n+1) x)(B:bZ (λb=>¬M b) (n+1) x)(J:(av (n+1) x).length<=2097152)(I:∀b,M b->b<w.heap.size)(A:nk<=49000)(G:ms.length<=999)(v:base<=w.heap.size):ak 78 #[.pointer (some ⟨pb,0,none⟩),df (n+1) x] w λe w'=>e=.returned (ab (mD (n+1) x room (cn 13 s) (ms.map (cn 13))))/\Hid (∃D q m o p k l h,cv base pb name room 13 s D [] (nk+201) (λb=>M b\/w.heap.size<=b) w' q m o p k l h/\bO M w w'/\D.map (cn 13)=if mD (n+1) x room (cn 13 s) (ms.map (cn 13))=0 then ms.map (cn 13)++ [cn (n+1) x]else ms.map (cn 13)):=by
 have L:∀r∈s::ms,bq 13 r=0:=λr Q=>((f.front (N:=12)).2.2.1 r Q).1;have O:((cn 13 s::ms.map (cn 13)).map (sz 13)).sum=((s::ms).map (sz 13)).sum:=DS L;by_cases a:bq (n+1) x=0
 ·have j:aA ⟨n+1,x⟩:=aJ.2 (bz.1 a).1;have i:fm (n+1) x<13:=by have:=(bz.1 a).2.1;omega
  have g:=iW 13 (n+1) x j i;have y:bq 13 (aN 13 (n+1) x)=0:=(bL g).trans a;have z:=f.deliver (N:=12) (aN 13 (n+1) x) (rG 13 (n+1) x _ _ j i C) (tn 13 (n+1) x _ j i B) (eR y) I A G v;have d:xQ 13 (aN 13 (n+1) x) room s ms=mD (n+1) x room (cn 13 s) (ms.map (cn 13)):=by
   unfold xQ mD rJ;rw[O,eh,y,a,cr _ _ _ _ g,kY _ _ _ _ g]
  have P:df (12+1) (aN (12+1) (n+1) x)=df (n+1) x:=yf 12 n x;rw[P]at z;refine z.mono ?_;rintro e w' ⟨rfl,E⟩;obtain⟨q,m,o,p,k,l,h,F,K⟩:=E.out;refine⟨congrArg (λS=>Ending.returned (ab S)) d,_,q,m,o,p,k,l,h,F,K,?_⟩;have H:xQ (12+1) (aN (12+1) (n+1) x) room s ms=mD (n+1) x room (cn 13 s) (ms.map (cn 13)):=d;rw[H];by_cases c:mD (n+1) x room (cn 13 s) (ms.map (cn 13))=0
  ·rw[if_pos c,if_pos c,fH];congr 1;exact congrArg (λt=> [t]) (gR g)
  ·rw[if_neg c,if_neg c]
 ·have d:mD (n+1) x room (cn 13 s) (ms.map (cn 13))=if 20<=ms.length then 2 else bq (n+1) x:=by
    unfold mD;rw[eh,if_pos a]
  have c:mD (n+1) x room (cn 13 s) (ms.map (cn 13))≠0:=by
   rw[d];split
   ·decide
   ·exact a
  refine(f.deliverBad (N:=12) x C B J A v a).mono ?_;rintro e w' ⟨rfl,u⟩;refine⟨by rw[d],ms,ws,nm,sv,vs,ma,mc,Mh,(f.later (N:=12) u).mono (N:=12) (λb R=>ag R) (by omega),aV u M,?_⟩;rw[if_neg c]
end
theorem I1{n:Nat}{x:Tm (n+1)}(room:Int)(name:ByteArray)(b:bq (n+1) x=0):fQ 13 (aN 13 (n+1) x) room name=fQ (n+1) x room name:=by
 have d:aA ⟨n+1,x⟩:=aJ.2 (bz.1 b).1;have c:fm (n+1) x<13:=by have:=(bz.1 b).2.1;omega
 have a:=iW 13 (n+1) x d c;unfold fQ jo;rw[bL a,cr _ _ _ _ a,kY _ _ _ _ a]
theorem NS(n:Nat)(x:Tm (n+1))(room:Int)(name:ByteArray)(w:World)(m:name.size<=9223372036854775807)(o:In w.heap.size w (n+1) x)(q:(av (n+1) x).length<=2097152):ak 39 #[ae name,df (n+1) x,ab room] w λe w'=>(fQ (n+1) x room name≠0->e=.returned (.tuple #[.pointer none,ab (fQ (n+1) x room name)])/\ai w w')/\ (fQ (n+1) x room name=0->∃d,e=.returned (.tuple #[.pointer (some ⟨d,0,none⟩),ab 0])/\Hid (w.heap.size<=d/\ai w w'/\bq (n+1) x=0/\∃s ws nm h Mh,cn 13 s=cn (n+1) x/\cv w.heap.size d name room 13 s [] [] 201 (λb=>w.heap.size<=b/\b<w'.heap.size) w' ws nm h [] none 0 Mh)):=by
 by_cases c:bq (n+1) x=0
 ·have k:aA ⟨n+1,x⟩:=aJ.2 (bz.1 c).1;have j:fm (n+1) x<13:=by have:=(bz.1 c).2.1;omega
  have l:=iW 13 (n+1) x k j;have r:bq 13 (aN 13 (n+1) x)=0:=(bL l).trans c;have i:=AS 12 (aN 13 (n+1) x) room name w m (rG 13 (n+1) x _ _ k j o) (eR r);have u:df (12+1) (aN (12+1) (n+1) x)=df (n+1) x:=yf 12 n x;rw[u]at i;refine i.mono ?_;rintro e w' ⟨f,g⟩;have t:fQ (12+1) (aN (12+1) (n+1) x) room name=fQ (n+1) x room name:=I1 room name c;rw[t]at f g;refine⟨f,λa=>?_⟩;obtain⟨d,rfl,p⟩:=g a;obtain⟨v,y,ws,nm,h,Mh,z⟩:=p.out;exact⟨d,rfl,v,y,c,_,ws,nm,h,Mh,gR l,z⟩
 ·refine(AS n x room name w m o q).mono ?_;rintro e w' ⟨f,g⟩;refine⟨f,λa=>?_⟩;unfold fQ at a;split at a
  ·cases a
  ·split at a
   ·cases a
   ·unfold jo at a;rw[if_pos c]at a;exact absurd a c
def P1(e l:Nat)(name:ByteArray)(room:Int)(cs:Tc)(g:List Tc)(k:Nat)(M:Nat->Prop)(w:World):Prop:=
 ∃a d c o j m n h i f,cv a l name room 13 d c [] k M w o j m n h i f/\(cn 13 d=cs/\c.map (cn 13)=g)/\a<=w.heap.size/\∀b,M b->e<=b/\b<w.heap.size
section
variable {B0 pb:Nat} {name:ByteArray} {room:Int} {cs:Tc} {cms:List Tc} {k:Nat} {M:Nat->Prop} {w:World}
theorem P1.later(g:P1 B0 pb name room cs cms k M w){w1:World}(c:ai w w1):P1 B0 pb name room cs cms k M w1:=by
 obtain⟨f,o,m,r,n,p,q,j,l,e,h,i,s,a⟩:=g;have t:=c.size;exact⟨f,o,m,r,n,p,q,j,l,e,h.later (N:=12) c,i,by omega,λb d=>⟨(a b d).1,by have:=(a b d).2;omega⟩⟩
theorem P1.kept(g:P1 B0 pb name room cs cms k M w){S:Nat->Prop}{w1:World}(d:bO S w w1)(j:∀b,M b->¬S b):P1 B0 pb name room cs cms k M w1:=by
 obtain⟨f,p,n,s,o,q,r,l,m,e,h,i,t,c⟩:=g;have u:=d.size;exact⟨f,p,n,s,o,q,r,l,m,e,h.kept (N:=12) d λb a _=>j b a,i,by omega,λb a=>⟨(c b a).1,by have:=(c b a).2;omega⟩⟩
def mM(M:Nat->Prop)(w w':World)(b:Nat):Prop:=(M b\/w.heap.size<=b)/\b<w'.heap.size
theorem P1.ok(h:P1 B0 pb name room cs cms k M w):bq 13 cs=0/\aH 13 cs=true/\(∀m∈cms,bq 13 m=0/\aH 13 m=true)/\((cs::cms).map (sz 13)).sum<=room:=by
 obtain⟨q,b,f,z,v,x,y,t,u,p,i,⟨rfl,rfl⟩,r,s⟩:=h;obtain⟨_,_,e,n,o,_⟩:=i.front (N:=12);have j:∀a∈b::f,bq 13 a=0:=λa d=>(e a d).1;have c:=e b (by simp);refine⟨rv c.1,(lE c.1).trans c.2,λm l=>?_,?_⟩
 ·obtain⟨a,d,rfl⟩:=bU.1 l;have:=e a (bH _ d);exact⟨rv this.1,(lE this.1).trans this.2⟩
 ·have g:((cn 13 b::f.map (cn 13)).map (sz 13)).sum=((b::f).map (sz 13)).sum:=DS j;rw[g];exact Int.le_trans n o
theorem P1.deliver(j:P1 B0 pb name room cs cms k M w){n:Nat}(x:Tm (n+1))(t:In w.heap.size w (n+1) x)(s:bZ (λb=>¬M b) (n+1) x)(q:(av (n+1) x).length<=2097152)(r:k<=49000)(m:cms.length<=999)(G:B0<=w.heap.size):ak 78 #[.pointer (some ⟨pb,0,none⟩),df (n+1) x] w λe w'=>e=.returned (ab (mD (n+1) x room cs cms))/\Hid (bO M w w'/\P1 B0 pb name room cs (if mD (n+1) x room cs cms=0 then cms++ [cn (n+1) x]else cms) (k+201) (mM M w w') w'):=by
 obtain⟨i,A,J,P,K,L,O,H,I,E,l,⟨rfl,rfl⟩,c,d⟩:=j;refine(l.deliverC x t s q (λb a=>(d b a).2) r (by simpa using m) c).mono ?_;rintro e w' ⟨rfl,h⟩;obtain⟨y,D,z,B,C,u,v,F,o,f,p⟩:=h.out;refine⟨rfl,f,i,A,y,D,z,B,C,u,v,_,o.inside (N:=12),⟨rfl,p⟩,ax c f.size,λb a=>⟨?_,a.2⟩⟩;rcases a.1 with g|g
 ·exact(d b g).1
 ·omega
theorem P1.state(d:P1 B0 pb name room cs cms k M w)(g:k<=50000):ak 24 #[.pointer (some ⟨pb,0,none⟩)] w λe w'=>∃y:Tc,e=.returned (df 13 y)/\Hid (ai w w'/\In w'.heap.size w' 13 y/\bZ (λq=>w.heap.size<=q) 13 y/\bq 13 y=0/\cn 13 y=cs):=by
 obtain⟨l,h,r,v,s,t,u,o,p,j,a,⟨rfl,rfl⟩,m,n⟩:=d;have f:=(a.front (N:=12)).2.2.1 h (by simp);refine(a.state (N:=12) g).mono ?_;rintro e w' ⟨y,rfl,c⟩;obtain⟨y1,y2,i,b⟩:=c.out;exact⟨y,rfl,y1,y2,i,(bL b).trans f.1,gR b⟩
end
section
variable {B0 pb:Nat} {name:ByteArray} {room:Int} {cs:Tc} {cms:List Tc} {k:Nat} {M:Nat->Prop} {w:World}
theorem P1.mono(f:P1 B0 pb name room cs cms k M w){M':Nat->Prop}{c a:Nat}(j:∀b,M b->M' b)(m:k<=c)(l:∀b,M' b->a<=b/\b<w.heap.size):P1 a pb name room cs cms c M' w:=by
 obtain⟨e,r,p,u,q,s,t,n,o,d,g,h,i,_⟩:=f;exact⟨e,r,p,u,q,s,t,n,o,d,g.mono (N:=12) j m,h,i,l⟩
def Oo(B0 pb:Nat)(name:ByteArray)(room:Int)(cs:Tc)(cms:List Tc)(k:Nat)(M:Nat->Prop)(n:Nat)(l:List (Bh (n+1)))(self next:Int)(w:World)(e:Ending)(w':World):Prop:=
 (∃g,e=.returned (.tuple #[LH,ab g])/\Hid (g≠0/\g=qQ n room l name self next cs cms/\ai w w'))\/
  ∃(a:Tc)(f:Int)(sa:Option Addr)(sl sc:Nat)(pa:Option Addr)(pl pc:Nat)(ka:Option Addr)(kl kc:Nat),e=.returned (.tuple #[Nu a.1.1 a.1.2.1 a.1.2.2 a.2.1.1 a.2.2.length a.2.1.2 f sa sl sc pa pl pc ka kl kc,ab 0])/\Hid (∃c d,qQ n room l name self next cs cms=0/\mP room l name self next cs cms=some c/\f=c.fate/\cn 13 a=c.message/\bq 13 a=0/\In w'.heap.size w' 13 a/\bZ (λh=>w.heap.size<=h/\h<d) 13 a/\bO M w w'/\w.heap.size<d/\
   P1 B0 pb name room c.state c.mail (k+402) (λb=>(M b\/d<=b)/\b<w'.heap.size) w'/\c.mail.length<=cms.length/\lj (w.heap.size+1) c.sends c.spawns c.links sa sl sc pa pl pc ka kl kc (λ_=>True) w')
theorem P1.step(D:P1 B0 pb name room cs cms k M w){n:Nat}(l:List (Bh (n+1)))(a:Option Addr)(c B:Nat)(K:gM (n+1) B w a l)(G:B<=w.heap.size)(L:l.length<=c)(O:c<=maxLen)(H:jP (n+1) l=true->(av (n+6) (bW n l)).length<=2097152)(I:∀W,bk M w W->gM (n+1) B W a l)(aj:B0<=w.heap.size)(J:k<=47000)(F:cms.length<=999)(self next:Int):ak 43 #[.pointer (some ⟨pb,0,none⟩),.slice a l.length c,ab self,ab next] w (Oo B0 pb name room cs cms k M n l self next w):=by
 obtain⟨C,ao,S,au,an,ap,aq,al,am,ae,E,⟨rfl,rfl⟩,i,j⟩:=D;refine(E.step l a c B K G L O H (λb d=>(j b d).2) I J (by simpa using F) i self next).mono ?_;rintro ai ar (⟨Y,rfl,e⟩|⟨ad,f,sa,sl,sc,pa,pl,pc,ka,kl,kc,rfl,e⟩)
 ·exact ag ⟨Y,rfl,e.out⟩
 ·obtain⟨X,P,o,p,r,s,t,u,v,x,g,y,⟨U,aa,T,V,Z,Q,R,af,z,A,h⟩,q⟩:=e.out;refine ah ⟨ad,f,sa,sl,sc,pa,pl,pc,ka,kl,kc,rfl,X,o,p,r,s,t,u,v,x,g,y,⟨C,U,_,aa,T,V,Z,Q,R,_,z.inside (N:=12),⟨A,h⟩,ax i g.size,λb d=>⟨?_,d.2⟩⟩,?_,q⟩
  ·rcases d.1 with m|m
   ·exact(j b m).1
   ·omega
  ·rw[<-h,eh,eh];exact List.length_eraseIdx_le S P
end
theorem P1.new(n:Nat)(x:Tm (n+1))(room:Int)(name:ByteArray)(w:World)(m:name.size<=9223372036854775807)(o:In w.heap.size w (n+1) x)(k:(av (n+1) x).length<=2097152):ak 39 #[ae name,df (n+1) x,ab room] w λe w'=>∃p:Option Addr,e=.returned (.tuple #[.pointer p,ab (fQ (n+1) x room name)])/\Hid (ai w w'/\(fQ (n+1) x room name≠0->p=none)/\(fQ (n+1) x room name=0->∃a,p=some ⟨a,0,none⟩/\w.heap.size<=a/\bq (n+1) x=0/\P1 w.heap.size a name room (cn (n+1) x) [] 201 (λb=>w.heap.size<=b/\b<w'.heap.size) w')):=by
 refine(NS n x room name w m o k).mono ?_;rintro e w' ⟨i,j⟩;by_cases c:fQ (n+1) x room name=0
 ·obtain⟨a,rfl,g⟩:=j c;obtain⟨q,f,r,v,z,u,y,h,s,t⟩:=g.out;exact⟨some ⟨a,0,none⟩,by rw[c],f,λd=>absurd c d,λ_=>⟨a,rfl,q,r,w.heap.size,v,[],z,u,y,[],none,0,h,t,⟨s,rfl⟩,f.size,λb d=>d⟩⟩
 ·obtain⟨rfl,l⟩:=i c;exact⟨none,rfl,l,λ_=>rfl,λd=>absurd d c⟩
structure BL where
 b:Nat
 o:Nat
 c:Array Value
 t:TypeId
def sL(p:BL)(a:Option Nat)(w:World):Prop:=(p.o<p.c.size/\p.t≠30)/\w.heap[p.b]?=some (.cells (p.c.setIfInBounds p.o (.map a)) p.t (0,0))
theorem sL.cell{p:BL}{c:Option Nat}{w:World}(a:sL p c w):w.cell? ⟨p.b,p.o,none⟩=some (.map c)/\∀j,w.frozen? ⟨p.b,j,none⟩=false:=by
 refine⟨?_,λj=>by simp[World.frozen?,a.2]⟩;simp[World.cell?,a.2,a.1.1]
theorem sL.lt{p:BL}{c:Option Nat}{w:World}(a:sL p c w):p.b<w.heap.size:=(aC.1 a.2).1
theorem sL.kept{p:BL}{c:Option Nat}{w w':World}(a:sL p c w)(d:w'.heap[p.b]?=w.heap[p.b]?):sL p c w':=⟨a.1,d.trans a.2⟩
theorem sL.set{p:BL}{c mo':Option Nat}{w:World}(a:sL p c w):sL p mo' (w.setCell ⟨p.b,p.o,none⟩ (.map mo')):=by
 refine⟨a.1,?_⟩;simp[World.setCell,bG,a.2]
def gO(base:Nat)(d:BL)(a:Option Nat)(n N:Nat)(f:Int×Int->List (Tm N))(sl:Int×Int->Value)(w:World):Prop:=
 base<=d.b/\sL d a w/\((a=none/\f=(λ_=> [])/\sl=λ_=>lM)\/∃c,a=some c/\GM base c n N f sl w)
def qX(c:BL)(a:Option Nat)(sl:Int×Int->Value)(b:Nat):Prop:=b=c.b\/a=some b\/∃k,I2 k/\(sl k).ownBlock=some b
variable {base n N:Nat} {wp:BL} {mo:Option Nat} {f:Int×Int->List (Tm N)} {sl:Int×Int->Value} {w:World}
theorem gO.lt(c:gO base wp mo n N f sl w)(b:Nat)(a:qX wp mo sl b):base<=b/\b<w.heap.size:=by
 obtain⟨d,e,g⟩:=c;rcases a with rfl|a
 ·exact⟨d,e.lt⟩
 ·rcases g with⟨rfl,_,rfl⟩|⟨i,rfl,h⟩
  ·rcases a with a|⟨k,_,a⟩
   ·cases a
   ·simp[lM,Value.ownBlock]at a
  ·refine h.lt b ?_;rcases a with a|a
   ·exact ag (au a).symm
   ·exact ah a
theorem D9{wp:BL}{c b:Nat}{sl:Int×Int->Value}(a:L9 c sl b):qX wp (some c) sl b:=by
 rcases a with rfl|a
 ·exact ah (ag rfl)
 ·exact ah (ah a)
theorem gO.kee{S:Nat->Prop}{w':World}(c:gO base wp mo n N f sl w)(k:bk S w w')(d:∀b,qX wp mo sl b->¬S b):gO base wp mo n N f sl w':=by
 have j:=(c.lt wp.b (ag rfl)).2;obtain⟨e,g,a⟩:=c;refine⟨e,g.kept (k.block wp.b j (d wp.b (ag rfl))),?_⟩;rcases a with a|⟨l,rfl,i⟩
 ·exact ag a
 ·exact ah ⟨l,rfl,i.kee k λb h=>d b (D9 h)⟩
theorem gO.later{w':World}(a:gO base wp mo n N f sl w)(k:ai w w'):gO base wp mo n N f sl w':=a.kee (aD k λ_=>False) λ_ _ b=>b
theorem gO.row(a:gO base wp mo n N f sl w){k:Int×Int}(c:I2 k):ns base N (sl k) (f k) w:=by
 rcases a.2.2 with⟨_,rfl,rfl⟩|⟨d,_,b⟩
 ·exact⟨by simp[de,cm],ag ⟨rfl,rfl⟩⟩
 ·exact b.row k c
theorem gO.look(b:gO base wp mo n N f sl w){k:Int×Int}(a:I2 k):(Instr.lookup 63 (.map mo) (pk k) false).run Tryz.prog w=.ok (sl k) w:=by
 rcases b.2.2 with⟨rfl,_,rfl⟩|⟨d,rfl,c⟩
 ·exact FH w a
 ·exact c.look a
theorem gO.cell(a:gO base wp mo n N f sl w):w.cell? ⟨wp.b,wp.o,none⟩=some (.map mo)/\∀j,w.frozen? ⟨wp.b,j,none⟩=false:=by
 exact a.2.1.cell
theorem ns.sliced{v:Value}{l:List (Tm N)}(d:ns base N v l w):∃a c,v=.slice a l.length c:=by
 rcases d.2 with⟨rfl,b⟩|⟨f,cap,e,rfl,_⟩
 ·exact⟨none,0,by rw[b]⟩
 ·exact⟨_,_,rfl⟩
theorem G0(c:gO base wp mo n N f sl w){a b:Int}(g:I2 (a,b)):ak 144 #[.pointer (some ⟨wp.b,wp.o,none⟩),ab a,ab b] w λe w'=>e=.returned (ab (f (a,b)).length)/\w'=w:=by
 have i:=c.cell.1;obtain⟨sa,sc,h⟩:=(c.row g).sliced;have d:=c.look g;rw[h]at d;unfold pk at d;simp only at d;clear c;go_enter Tryz.func144,Tryz.ntmps144;go_wp2_with fail
 go_ret
 exact⟨rfl,rfl⟩
theorem Eh(a:Int)(w:World):ak 143 #[ab a] w λe w'=>e=.returned (.bool (decide (1<=a) && decide (a<=99)))/\w'=w:=by
 go_enter Tryz.func143,Tryz.ntmps143;by_cases b:1<=a<;>by_cases c:a<=99
 all_goals
  go_wp2_with fail
  go_ret
  simp[b,c]
variable {base mb n N:Nat} {f:Int×Int->List (Tm N)} {sl:Int×Int->Value} {w wr:World}
def Mp(base mb n N:Nat)(f:Int×Int->List (Tm N))(sl:Int×Int->Value)(k:Int×Int)(g:Nat)(W e:World):Prop:=
 ∀(a:World)(c:Value)(l:List (Tm N)),a.heap[mb]?=e.heap[mb]? ->bk (λb=>b=mb\/(sl k).ownBlock=some b) W a->l≠[]->ns base N c l a->(∀b,c.ownBlock=some b->(sl k).ownBlock=some b\/W.heap.size<=b)->
  ∃d,(Instr.entryStore 63 (.map (some mb)) (goInt g) c).run Tryz.prog a=.ok () d/\GM base mb (n+1) N (gY f k l) (gY sl k c) d/\bk (λb=>b=mb) a d/\d.heap.size=a.heap.size
def Oh(base mb n N:Nat)(f:Int×Int->List (Tm N))(sl:Int×Int->Value)(k:Int×Int)(y:Tm N)(wr c:World):Prop:=
 ∃a,GM base mb (n+1) N (gY f k (f k++ [y])) (gY sl k a) c/\bk (L9 mb sl) wr c/\∀b,L9 mb (gY sl k a) b->L9 mb sl b\/wr.heap.size<=b
theorem GM.open(d:GM base mb n N f sl wr){k:Int×Int}(h:I2 k)(i:n<1000000){W:World}(e:ai wr W):∃(c:Nat)(a:World),(Instr.mapEntry 63 (.map (some mb)) (pk k)).run Tryz.prog W=.ok (.tuple #[sl k,goInt c]) a/\bk (λb=>b=mb) W a/\a.heap.size=W.heap.size/\Mp base mb n N f sl k c W a:=
 (d.kee (aD e λ_=>False) λ_ _ g=>g).entry h i
theorem Mp.done(o:GM base mb n N f sl wr){k:Int×Int}(s:I2 k){w L:Nat}{W i j e:World}(B:Mp base mb n N f sl k w W i)(q:ai wr W)(J:bk (λb=>b=mb) W i)(M:i.heap.size=W.heap.size)(l:ai i j)(D:j.grownBy e (sl k).ownBlock){g c:Nat}{y:Tm N}(z:(f k).length=L)(F:e.ownsRow base 30 4 (.slice (some ⟨g,0,none⟩) (L+1) c) (L+1) (de N (f k)++uF (fX N y)))(A:(sl k).ownBlock=some g\/g=j.heap.size):∃h,(Instr.entryStore 63 (.map (some mb)) (goInt w) (.slice (some ⟨g,0,none⟩) (L+1) c)).run Tryz.prog e=.ok () h/\Oh base mb n N f sl k y wr h/\bk (λb=>b=mb) e h/\h.heap.size=e.heap.size:=by
 subst z;have K:=o.lt mb (ag rfl);have P:=q.size;have O:=l.size;have v:=dR D;have I:(Value.slice (some ⟨g,0,none⟩) ((f k).length+1) c).ownBlock=some g:=rfl;have u:∀b,(Value.slice (some ⟨g,0,none⟩) ((f k).length+1) c).ownBlock=some b->(sl k).ownBlock=some b\/W.heap.size<=b:=λb d=>by
  rw[I]at d;injection d with d;subst d;rcases A with a|a
  ·exact ag a
  ·exact ah (by omega)
 have p:bk (λb=>b=mb\/(sl k).ownBlock=some b) W e:=by
  refine bk.trans (bk.trans (J.mono λb _ a=>ag a) (aD l λ_=>False) λ_ _ C=>C.elim) v λb _ a=>ah a
 have E:e.heap[mb]?=i.heap[mb]? :=(v.block mb (by omega) (o.ne s)).trans (l.block mb (by omega))
 obtain⟨h,G,x,t,H⟩:=B e _ (f k++ [y]) E p (by simp) (by
  unfold ns;rw[o8,bf];have a:de N [y]=uF (fX N y):=by simp[de,cm]
  rw[a]
  exact F) u
 refine⟨h,G,⟨_,x,?_,λb d=>?_⟩,t,H⟩
 ·refine bk.trans (bk.trans (aD q _) (p.mono (T:=λb=>b=mb\/(sl k).ownBlock=some b) λb _ a=>a) λb _ a=>?_) t λb _ a=>ag a;rcases a with a|a
  ·exact ag a
  ·exact ah ⟨k,s,a⟩
 ·rcases d with d|⟨m,r,d⟩
  ·exact ag (ag d)
  ·by_cases a:m=k
   ·subst a;rw[cF]at d;rcases u b d with a|a
    ·exact ag (ah ⟨m,r,a⟩)
    ·exact ah (by omega)
   ·rw[bM _ _ a]at d;exact ag (ah ⟨m,r,d⟩)
section
variable {ops:Array Oper} {o:Oper} {a:Act} {K:Act->World->Prop} {Q:Exit->Act->World->Prop} {E:Prop}
end
end Go.Proofs.YtckamaoibonjcaaGreat
