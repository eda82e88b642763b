"""Line classes, and the class of a scalar under the ways."""

from brokenlinesdesk.kinds import GENERAL, LINE, MC, MN

XX = 0
AI = 1
AK = 2
AL = 3
AP = 4
AS = 5
B2 = 6
BA = 7
BB = 8
BK = 9
CB = 10
CJ = 11
CL = 12
CM = 13
CP = 14
CR = 15
EB = 16
EM = 17
EX = 18
GL = 19
H2 = 20
H3 = 21
HL = 22
HY = 23
ID = 24
IN = 25
IS = 26
JL = 27
JT = 28
JV = 29
LF = 30
NL = 31
NS = 32
NU = 33
OP = 34
PO = 35
PR = 36
QU = 37
RI = 38
SA = 39
SG = 40
SP = 41
SY = 42
VF = 43
VI = 44
WJ = 45
ZW = 46
ZWJ = 47


def first_class(book, scalar):
    return book.value(LINE, scalar)


def resolved_class(book, ways, scalar):
    found = first_class(book, scalar)
    if found == AI:
        return ID if ways.eastern else AL
    if found in (SG, XX):
        return AL
    if found == SA:
        return CM if book.value(GENERAL, scalar) in (MN, MC) else AL
    if found == CJ:
        return NS if ways.strict else ID
    return found


def line_class(book, ways, scalar):
    found = resolved_class(book, ways, scalar)
    if ways.loose and found in (NS, IN):
        found = ID
    if ways.break_all and found in (AL, HL, NU):
        return ID
    if ways.keep_all and found in (ID, H2, H3, JL, JV, JT):
        return AL
    return found


# A scalar of one of these classes takes no marks and is none, so it's always a whole unit.
def stands_alone(kind):
    return kind in (BK, CR, LF, NL, SP, ZW)
